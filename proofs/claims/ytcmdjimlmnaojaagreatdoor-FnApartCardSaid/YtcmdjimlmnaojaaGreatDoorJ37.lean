import Derived.Test.YtcmdjimlmnaojaaGreatDoorJ33
import Derived.Test.YtcmdjimlmnaojaaGreatDoorJ34
import Derived.Test.YtcmdjimlmnaojaaGreatDoorJ31
import Derived.Test.YtcmdjimlmnaojaaGreatDoorJ32
set_option maxRecDepth 100000
set_option maxHeartbeats 8000000
namespace Go.Proofs.YtcmdjimlmnaojaaGreatDoor
open Go.RowKit Tryz
section
open Go.Maps
attribute [local go_sem] fG dH lK jB.drewI sK.drewI sK.new sK.alloc sK.alloc2
theorem jv(c:lC)(a b:nC)(m i:Nat)(N:sC)(k:nC)(capr:Nat)(j:List nE)(w:World)(h:aFv w a b N k j):
 Calls prog 50 #[uE c,.agg (gC a m b i N),.slice k j.length capr] w λe p=>qu (nF c N j) w e p:=by
 have g:=h.bulk;have X:=dB (λW=>fK c W);have l:cB (∀W,xB w W->Calls prog 43 #[.agg (gC a m b i N)] W λe p=>∃a m b i,e=.returned (.agg (gC a m b i N))/\uB p a N.d.fs/\aD p b N.ts/\xB W p):=λW n=>(vN a b m i N W (h.files.z n) h.fit.len (h.tens.z n) (by omega) (dP (by omega))).mono λe p ⟨a,m,b,i,o,d,B,G⟩=>⟨a,m,b,i,o,d.files,B.tens,G⟩
 have Q:=dB (λW(n:xB w W)=>SP c N.now b i N.ts k capr j W (h.tens.z n) (h.recs.z n) g);have Z:=dB (λW=>uD N.lsn 0 999999999999999 W);have HBT:=dB (fun(d:yB N.lsn 0 999999999999999=true) W(n:xB w W)=>js (N.lsn+1) k capr j W (h.recs.z n) (cc (by omega)) h.rng (by have:=lv d;constructor<;>omega) (by omega));have M:=dB (λW(n:xB w W)=>jr a m N.d.fs N.d.c N.d.k N.d.cr N.d.fl N.d.dn N.l.first N.l.last N.l.size (oO (N.lsn+1) j) c.sg W (h.files.z n) h.fit (ri (by omega)));have HFL:cB (∀W a' O K L,N.up=true->xB w W->Calls prog 110 #[.agg (gC a m b i N),.agg #[.slice a' K.fs.length O,aB K.c,aB K.k,aB K.cr,aB K.fl,.bool K.dn],.agg #[aB L.first,aB L.last,aB L.size]] W λe p=>∃b i,e=.returned (.agg (gC a' O b i ⟨K,L,N.now,N.ts,N.lsn,true,!K.dn⟩))/\aD p b N.ts/\xB W p):=λW a' O K L k n=>(FC a b a' m i O N K L W (h.files.z n) h.fit.len (h.tens.z n) (by omega) (dP (by omega)) k).mono λe p ⟨b,i,o,B,G⟩=>⟨b,i,o,B.tens,G⟩
 have B:=dB (λh=>aJp (c:=c) (N:=N) (rs:=j) h);have o:=dB (λh=>aDw (c:=c) (N:=N) (rs:=j) h);have O:=dB (aJq (N:=N) (R:=qE N.d N.l (oO (N.lsn+1) j) c.sg) (S:=vG c N.now N.ts j));clear h g;unfold oT at Q;unfold aMu at M;unfold uE at *;generalize nF c N j=V at *;generalize vG c N.now N.ts j=A at *;generalize oO (N.lsn+1) j=h at *;have G:cB (qE N.d N.l h c.sg=qE ⟨N.d.fs,N.d.c,N.d.k,N.d.cr,N.d.fl,N.d.dn⟩ ⟨N.l.first,N.l.last,N.l.size⟩ h c.sg):=rfl;rw[<-G.o]at M;clear G;generalize qE N.d N.l h c.sg=R at *;obtain⟨n5,f,h⟩:=A;obtain⟨K,L,x⟩:=R;have fz:=cL;dsimp only at Q M o O;have U:=dB (NP.new (w:=w) (c:=c) (cs:=gC a m b i N));go_enter func50,ntmps50;go_wp2_with fail;apply jC (X.o _);intro w1 g;have P:=dB (U.o.z g);clear g X U;obtain⟨q,r,s,t,u,v,y,z,C,D,F,G,H,I,J⟩:=P.o.cells rfl;cases hc:lG c with
 |false=>
  have E:=dB (B.o hc);go_wp2;exact aX (ca:=0) (cb:=0) rfl rfl rfl rfl P.o E.o (Ca rfl) (Ca rfl)
 |true=>
  replace o:=dB (o.o hc);obtain⟨k,E⟩|⟨k,⟨rfl,E⟩|⟨rfl,⟨d,E⟩|⟨d,⟨rfl,E⟩|⟨h,E⟩⟩⟩⟩:=o.o
  rotate_left 4;obtain⟨e0,B,W,Y,h⟩|⟨e0,e4,⟨B|⟨B,W|⟨W,Y⟩⟩,h⟩|⟨B,W,Y,h⟩⟩:=O.o
  all_goals(try replace E:=E.trans h)
  all_goals
   rcases aNw k with⟨B,T⟩|⟨B,T,W⟩|⟨B,T,W⟩
  all_goals cases B
  all_goals
   replace E:=dB E;clear O o k;(try clear h);(try (have h:=lv d;obtain⟨k,k⟩:=h));have h:=jF a m b i N 42;have k:=rE a m b i N;rw[T]at h k;(try (rw[W]at h k;clear W));replace T:=dB T;go_wp2_with(first
    |(go_at_call 43;refine(l.o _ (by with_reducible first|exact P.o.B|exact(P.o.z bC).B|exact((P.o.z bC).z bC).B)).mono ?_;rintro e m ⟨h,h,o,B,rfl,k,l,g⟩;(first|replace P:=dB (P.o.z g)|replace P:=dB ((P.o.z bC).z g)|replace P:=dB (((P.o.z bC).z bC).z g));clear g q r s t u v y z C D F G H I J;obtain⟨q,r,s,t,u,v,y,z,C,D,F,G,H,I,J⟩:=P.o.cells rfl)
    |(go_at_call 42;refine(Q.o _ P.o.B).mono ?_;rintro e O ⟨W,c5,rfl,h,g⟩;have Y:=dB h.tens;replace P:=dB (P.o.z g);clear h g q r s t u v y z C D F G H I J;obtain⟨q,r,s,t,u,v,y,z,C,D,F,G,H,I,J⟩:=P.o.cells rfl)
    |(go_at_call 86;apply jC (Z.o _);rintro w6 rfl)
    |(go_at_call 100;apply jC (HBT.o d _ (P.o.z bC).B);intro d g;have Z:=(jB.new O _ _).z g;replace g:=aC bC g;replace P:=dB (P.o.z g);replace Y:=dB (Y.o.z g);clear g q r s t u v y z C D F G H I J;obtain⟨q,r,s,t,u,v,y,z,C,D,F,G,H,I,J⟩:=P.o.cells rfl)
    |(go_at_call 109;refine(M.o _ P.o.B).mono ?_;rintro e d ⟨O,c8,rfl,h,g⟩;have d:=dB h;replace P:=dB (P.o.z g);replace Y:=dB (Y.o.z g);replace Z:=Z.z g;obtain⟨z0,z1⟩:=Z.c2;have z2:=bB Z;have z3:=Nat.ne_of_lt z2;have fM:=rE O c8 W c5 ⟨K,L,n5,f,N.lsn+1,false,true⟩;dsimp only at fM;clear fz h g Z q r s t u v y z C D F G H I J;obtain⟨q,r,s,t,u,v,y,z,C,D,F,G,H,I,J⟩:=P.o.cells rfl)
    |(go_at_call 110;refine(HFL.o _ _ _ _ _ T.o ((P.o.z bC).z bC).B).mono ?_;rintro e m ⟨o,B,rfl,l,g⟩;replace g:=aC (aC bC bC) g;replace P:=dB (P.o.z g);have k:=d.o.z g;clear g z0 z1 q r s t u v y z C D F G H I J;obtain⟨q,r,s,t,u,v,y,z,C,D,F,G,H,I,J⟩:=P.o.cells rfl))
  .exact aX rfl rfl rfl rfl ((P.o.z bC).z bC) E.o ((d.o.z bC).z bC) ((Y.o.z bC).z bC)
  all_goals exact aX rfl rfl rfl rfl P.o E.o k l
end
