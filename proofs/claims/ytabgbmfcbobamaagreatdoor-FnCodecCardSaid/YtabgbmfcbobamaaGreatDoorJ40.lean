import Derived.Test.YtabgbmfcbobamaaGreatDoorJ39
import Derived.Test.YtabgbmfcbobamaaGreatDoorJ31
import Derived.Test.YtabgbmfcbobamaaGreatDoorJ25
set_option maxRecDepth 100000
set_option maxHeartbeats 8000000
namespace Go.Proofs.YtabgbmfcbobamaaGreatDoor
open Go.RowKit Tryz
section
open Go.Maps
attribute [local go_sem] rG sH mN eA.drewI dM.drewI dM.new dM.alloc dM.alloc2
theorem bv (c:vB) (a b:Option Addr) (m i:Nat) (N:yC) (ar:Option Addr) (capr:Nat) (j:List lC) (w:World) (h:aGt w a b N ar j):
 Calls prog 83 #[iD c,.agg (iB a m b i N),.slice ar j.length capr] w fun e p=>il (bJ c N j) w e p:=by
 have g:=h.bulk;have X:=bA (fun W=>kH c W);have HCP:Hid (∀W,Below w.heap.size w W->Calls prog 77 #[.agg (iB a m b i N)] W fun e p=>∃a m b i,e=.returned (.agg (iB a m b i N))/\qA p a N.d.fs/\oB p b N.ts/\Below W.heap.size W p):=fun W n=>(fK a b m i N W (h.files.later n) h.fit.len (h.tens.later n) (by omega) (qR (by omega))).mono fun e p ⟨a,m,b,i,he,h1,h2,h3⟩=>⟨a,m,b,i,he,h1.files,h2.tens,h3⟩
 have Q:=bA (fun W (n:Below w.heap.size w W)=>NM c N.now b i N.ts ar capr j W (h.tens.later n) (h.recs.later n) g);have HWI:=bA (fun W=>hC N.lsn 0 999999999999999 W);have HBT:=bA (fun(hl:xA N.lsn 0 999999999999999=true) W (n:Below w.heap.size w W)=>GI (N.lsn+1) ar capr j W (h.recs.later n) (sn (by omega)) h.rng (by have:=sy hl;constructor<;>omega) (by omega));have M:=bA (fun W (n:Below w.heap.size w W)=>bs a m N.d.fs N.d.c N.d.k N.d.cr N.d.fl N.d.dn N.l.first N.l.last N.l.size (zG (N.lsn+1) j) c.sg W (h.files.later n) h.fit (zn (by omega)));have HFL:Hid (∀W a' O K L,N.up=true->Below w.heap.size w W->Calls prog 126 #[.agg (iB a m b i N),.agg #[.slice a' K.fs.length O,.int .i64 K.c,.int .i64 K.k,.int .i64 K.cr,.int .i64 K.fl,.bool K.dn],.agg #[.int .i64 L.first,.int .i64 L.last,.int .i64 L.size]] W fun e p=>∃b i,e=.returned (.agg (iB a' O b i ⟨K,L,N.now,N.ts,N.lsn,true,!K.dn⟩))/\oB p b N.ts/\Below W.heap.size W p):=fun W a' O K L hu n=>(BH a b a' m i O N K L W (h.files.later n) h.fit.len (h.tens.later n) (by omega) (qR (by omega)) hu).mono fun e p ⟨b,i,he,h2,h3⟩=>⟨b,i,he,h2.tens,h3⟩
 have HV0:=bA (fun h=>aGh (c:=c) (N:=N) (rs:=j) h);have o:=bA (fun h=>aCx (c:=c) (N:=N) (rs:=j) h);have HK:=bA (aGi (N:=N) (R:=bI N.d N.l (zG (N.lsn+1) j) c.sg) (S:=lM c N.now N.ts j));clear h g;unfold fV at Q;unfold aFy at M;unfold iD at *;generalize bJ c N j=V at *;generalize lM c N.now N.ts j=A at *;generalize zG (N.lsn+1) j=PL at *;have hR:Hid (bI N.d N.l PL c.sg=bI ⟨N.d.fs,N.d.c,N.d.k,N.d.cr,N.d.fl,N.d.dn⟩ ⟨N.l.first,N.l.last,N.l.size⟩ PL c.sg):=rfl;rw[<-hR.out]at M;clear hR;generalize bI N.d N.l PL c.sg=R at *;obtain⟨n5,f,o5⟩:=A;obtain⟨K,L,x⟩:=R;have fz:=xO;dsimp only at Q M o HK;have U:=bA (NP.new (w:=w) (c:=c) (cs:=iB a m b i N));go_enter func83,ntmps83;go_wp2_with fail;refine(X.out _).mono ?_;rintro e w1 ⟨rfl,g⟩;have P:=bA (U.out.later g);clear g X U;obtain⟨q,r,s,t,u,v,y,z,C,D,F,G,H,I,J⟩:=P.out.cells rfl;cases hc:jE c with
 |false=>
  have E:=bA (HV0.out hc);go_wp2;exact pU (ca:=0) (cb:=0) rfl rfl rfl rfl P.out E.out (Ca rfl) (Ca rfl)
 |true=>
  replace o:=bA (o.out hc);rcases o.out with⟨hu,E⟩|⟨hu,⟨rfl,E⟩|⟨rfl,⟨hl,E⟩|⟨hl,⟨rfl,E⟩|⟨hp,E⟩⟩⟩⟩
  rotate_left 4;rcases HK.out with⟨e0,e1,e2,e3,E2⟩|⟨e0,e4,⟨e1|⟨e1,e2|⟨e2,e3⟩⟩,E2⟩|⟨e1,e2,e3,E2⟩⟩
  all_goals(try replace E:=E.trans E2)
  all_goals
   rcases aGq hu with⟨k0,T⟩|⟨k0,T,k2⟩|⟨k0,T,k2⟩
  all_goals cases k0
  all_goals
   replace E:=bA E;clear HK o hu;(try clear E2);(try (have hq:=sy hl;obtain⟨l0,l1⟩:=hq));have rN:=yE a m b i N 82;have fN:=lE a m b i N;rw[T]at rN fN;(try (rw[k2]at rN fN;clear k2));replace T:=bA T;go_wp2_with(first
    |(go_at_call 77;refine(HCP.out _ (by with_reducible first|exact P.out.B|exact(P.out.later (cA _ _)).B|exact((P.out.later (cA _ _)).later (cA _ _)).B)).mono ?_;rintro e w9 ⟨a9,c9,b9,d9,rfl,hF,hT,g⟩;(first|replace P:=bA (P.out.later g)|replace P:=bA ((P.out.later (cA _ _)).later g)|replace P:=bA (((P.out.later (cA _ _)).later (cA _ _)).later g));clear g q r s t u v y z C D F G H I J;obtain⟨q,r,s,t,u,v,y,z,C,D,F,G,H,I,J⟩:=P.out.cells rfl)
    |(go_at_call 76;refine(Q.out _ P.out.B).mono ?_;rintro e w5 ⟨a5,c5,rfl,ho,g⟩;have Y:=bA ho.tens;replace P:=bA (P.out.later g);clear ho g q r s t u v y z C D F G H I J;obtain⟨q,r,s,t,u,v,y,z,C,D,F,G,H,I,J⟩:=P.out.cells rfl)
    |(go_at_call 25;refine(HWI.out _).mono ?_;rintro e w6 ⟨rfl,rfl⟩)
    |(go_at_call 6;refine(HBT.out hl _ (P.out.later (cA _ _)).B).mono ?_;rintro e w7 ⟨rfl,g⟩;have Z:=(eA.new w5 _ _).later g;replace g:=nA (cA _ _) g;replace P:=bA (P.out.later g);replace Y:=bA (Y.out.later g);clear g q r s t u v y z C D F G H I J;obtain⟨q,r,s,t,u,v,y,z,C,D,F,G,H,I,J⟩:=P.out.cells rfl)
    |(go_at_call 125;refine(M.out _ P.out.B).mono ?_;rintro e w8 ⟨a8,c8,rfl,ho,g⟩;have O8:=bA ho;replace P:=bA (P.out.later g);replace Y:=bA (Y.out.later g);replace Z:=Z.later g;obtain⟨z0,z1⟩:=Z.c2;have z2:=aA Z;have z3:=Nat.ne_of_lt z2;have fM:=lE a8 c8 a5 c5 ⟨K,L,n5,f,N.lsn+1,false,true⟩;dsimp only at fM;clear fz ho g Z q r s t u v y z C D F G H I J;obtain⟨q,r,s,t,u,v,y,z,C,D,F,G,H,I,J⟩:=P.out.cells rfl)
    |(go_at_call 126;refine(HFL.out _ _ _ _ _ T.out ((P.out.later (cA _ _)).later (cA _ _)).B).mono ?_;rintro e w9 ⟨b9,d9,rfl,hT,g⟩;replace g:=nA (nA (cA _ _) (cA _ _)) g;replace P:=bA (P.out.later g);have hF:=O8.out.later g;clear g z0 z1 q r s t u v y z C D F G H I J;obtain⟨q,r,s,t,u,v,y,z,C,D,F,G,H,I,J⟩:=P.out.cells rfl))
  ·exact pU rfl rfl rfl rfl ((P.out.later (cA _ _)).later (cA _ _)) E.out ((O8.out.later (cA _ _)).later (cA _ _)) ((Y.out.later (cA _ _)).later (cA _ _))
  all_goals exact pU rfl rfl rfl rfl P.out E.out hF hT
end
