import Derived.Test.YtiegonaogehghaaGreatDoorJ33
import Derived.Test.YtiegonaogehghaaGreatDoorJ34
import Derived.Test.YtiegonaogehghaaGreatDoorJ31
import Derived.Test.YtiegonaogehghaaGreatDoorJ32
set_option maxRecDepth 100000
set_option maxHeartbeats 8000000
namespace Go.Proofs.YtiegonaogehghaaGreatDoor
open Go.RowKit Tryz
section
open Go.Maps
attribute [local go_sem] wF uG fK gB.drewI oK.drewI oK.new oK.alloc oK.alloc2
theorem jr(c:gC)(a b:jC)(m i:Nat)(N:pC)(k:jC)(capr:Nat)(j:List qE)(w:World)(h:aGa w a b N k j):
 Calls prog 55 #[jE c,.agg (dC a m b i N),.slice k j.length capr] w λe p=>qu (zF c N j) w e p:=by
 have g:=h.bulk;have X:=cB (λW=>yJ c W);have l:bB (∀W,tB w W->Calls prog 48 #[.agg (dC a m b i N)] W λe p=>∃a m b i,e=.returned (.agg (dC a m b i N))/\rB p a N.d.fs/\uC p b N.ts/\tB W p):=λW n=>(pN a b m i N W (h.files.z n) h.fit.len (h.tens.z n) (by omega) (yO (by omega))).mono λe p ⟨a,m,b,i,o,d,B,G⟩=>⟨a,m,b,i,o,d.files,B.tens,G⟩
 have Q:=cB (λW(n:tB w W)=>SF c N.now b i N.ts k capr j W (h.tens.z n) (h.recs.z n) g);have Z:=cB (λW=>qD N.lsn 0 999999999999999 W);have HBT:=cB (fun(d:zB N.lsn 0 999999999999999=true) W(n:tB w W)=>jn (N.lsn+1) k capr j W (h.recs.z n) (bz (by omega)) h.rng (by have:=lq d;constructor<;>omega) (by omega));have M:=cB (λW(n:tB w W)=>jm a m N.d.fs N.d.c N.d.k N.d.cr N.d.fl N.d.dn N.l.first N.l.last N.l.size (cR (N.lsn+1) j) c.sg W (h.files.z n) h.fit (rh (by omega)));have HFL:bB (∀W a' O K L,N.up=true->tB w W->Calls prog 118 #[.agg (dC a m b i N),.agg #[.slice a' K.fs.length O,zA K.c,zA K.k,zA K.cr,zA K.fl,.bool K.dn],.agg #[zA L.first,zA L.last,zA L.size]] W λe p=>∃b i,e=.returned (.agg (dC a' O b i ⟨K,L,N.now,N.ts,N.lsn,true,!K.dn⟩))/\uC p b N.ts/\tB W p):=λW a' O K L k n=>(EX a b a' m i O N K L W (h.files.z n) h.fit.len (h.tens.z n) (by omega) (yO (by omega)) k).mono λe p ⟨b,i,o,B,G⟩=>⟨b,i,o,B.tens,G⟩
 have B:=cB (λh=>aJt (c:=c) (N:=N) (rs:=j) h);have o:=cB (λh=>aDz (c:=c) (N:=N) (rs:=j) h);have O:=cB (aJu (N:=N) (R:=pE N.d N.l (cR (N.lsn+1) j) c.sg) (S:=rG c N.now N.ts j));clear h g;unfold nT at Q;unfold aMw at M;unfold jE at *;generalize zF c N j=V at *;generalize rG c N.now N.ts j=A at *;generalize cR (N.lsn+1) j=h at *;have G:bB (pE N.d N.l h c.sg=pE ⟨N.d.fs,N.d.c,N.d.k,N.d.cr,N.d.fl,N.d.dn⟩ ⟨N.l.first,N.l.last,N.l.size⟩ h c.sg):=rfl;rw[<-G.o]at M;clear G;generalize pE N.d N.l h c.sg=R at *;obtain⟨n5,f,h⟩:=A;obtain⟨K,L,x⟩:=R;have fz:=yK;dsimp only at Q M o O;have U:=cB (NP.new (w:=w) (c:=c) (cs:=dC a m b i N));go_enter func55,ntmps55;go_wp2_with fail;apply hC (X.o _);intro w1 g;have P:=cB (U.o.z g);clear g X U;obtain⟨q,r,s,t,u,v,y,z,C,D,F,G,H,I,J⟩:=P.o.cells rfl;cases hc:cF c with
 |false=>
  have E:=cB (B.o hc);go_wp2;exact aX (ca:=0) (cb:=0) rfl rfl rfl rfl P.o E.o (Ca rfl) (Ca rfl)
 |true=>
  replace o:=cB (o.o hc);obtain⟨k,E⟩|⟨k,⟨rfl,E⟩|⟨rfl,⟨d,E⟩|⟨d,⟨rfl,E⟩|⟨h,E⟩⟩⟩⟩:=o.o
  rotate_left 4;obtain⟨Y,B,U,W,h⟩|⟨Y,Y,⟨B|⟨B,U|⟨U,W⟩⟩,h⟩|⟨B,U,W,h⟩⟩:=O.o
  all_goals(try replace E:=E.trans h)
  all_goals
   rcases aNw k with⟨B,T⟩|⟨B,T,U⟩|⟨B,T,U⟩
  all_goals cases B
  all_goals
   replace E:=cB E;clear O o k;(try clear h);(try (have h:=lq d;obtain⟨k,k⟩:=h));have h:=eF a m b i N 42;have k:=lE a m b i N;rw[T]at h k;(try (rw[U]at h k;clear U));replace T:=cB T;go_wp2_with(first
    |(go_at_call 48;refine(l.o _ (by with_reducible first|exact P.o.B|exact(P.o.z yB).B|exact((P.o.z yB).z yB).B)).mono ?_;rintro e m ⟨h,h,o,B,rfl,k,l,g⟩;(first|replace P:=cB (P.o.z g)|replace P:=cB ((P.o.z yB).z g)|replace P:=cB (((P.o.z yB).z yB).z g));clear g q r s t u v y z C D F G H I J;obtain⟨q,r,s,t,u,v,y,z,C,D,F,G,H,I,J⟩:=P.o.cells rfl)
    |(go_at_call 47;refine(Q.o _ P.o.B).mono ?_;rintro e O ⟨U,W,rfl,h,g⟩;have Y:=cB h.tens;replace P:=cB (P.o.z g);clear h g q r s t u v y z C D F G H I J;obtain⟨q,r,s,t,u,v,y,z,C,D,F,G,H,I,J⟩:=P.o.cells rfl)
    |(go_at_call 90;apply hC (Z.o _);rintro w6 rfl)
    |(go_at_call 108;apply hC (HBT.o d _ (P.o.z yB).B);intro d g;have Z:=(gB.new O _ _).z g;replace g:=vB yB g;replace P:=cB (P.o.z g);replace Y:=cB (Y.o.z g);clear g q r s t u v y z C D F G H I J;obtain⟨q,r,s,t,u,v,y,z,C,D,F,G,H,I,J⟩:=P.o.cells rfl)
    |(go_at_call 117;refine(M.o _ P.o.B).mono ?_;rintro e d ⟨O,c8,rfl,h,g⟩;have d:=cB h;replace P:=cB (P.o.z g);replace Y:=cB (Y.o.z g);replace Z:=Z.z g;obtain⟨z0,z1⟩:=Z.c2;have z2:=aB Z;have z3:=Nat.ne_of_lt z2;have fM:=lE O c8 U W ⟨K,L,n5,f,N.lsn+1,false,true⟩;dsimp only at fM;clear fz h g Z q r s t u v y z C D F G H I J;obtain⟨q,r,s,t,u,v,y,z,C,D,F,G,H,I,J⟩:=P.o.cells rfl)
    |(go_at_call 118;refine(HFL.o _ _ _ _ _ T.o ((P.o.z yB).z yB).B).mono ?_;rintro e m ⟨o,B,rfl,l,g⟩;replace g:=vB (vB yB yB) g;replace P:=cB (P.o.z g);have k:=d.o.z g;clear g z0 z1 q r s t u v y z C D F G H I J;obtain⟨q,r,s,t,u,v,y,z,C,D,F,G,H,I,J⟩:=P.o.cells rfl))
  .exact aX rfl rfl rfl rfl ((P.o.z yB).z yB) E.o ((d.o.z yB).z yB) ((Y.o.z yB).z yB)
  all_goals exact aX rfl rfl rfl rfl P.o E.o k l
end
