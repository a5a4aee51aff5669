import Derived.Test.YtbfnhppoecdnoaaGreatDoorJ48
import Derived.Test.YtbfnhppoecdnoaaGreatDoorJ49
import Derived.Test.YtbfnhppoecdnoaaGreatDoorJ50
import Derived.Test.YtbfnhppoecdnoaaGreatDoorJ51
set_option maxRecDepth 100000
set_option maxHeartbeats 8000000
open List renaming length->vA
namespace Go.Proofs.YtbfnhppoecdnoaaGreatDoor
open Go.RowKit Tryz
section
open Go.Maps
attribute [local go_sem] zG tH cO iB.drewI fO.drewI fO.new fO.alloc fO.alloc2
theorem aRp(c:lC)(a b:iC)(z u:Nat)(N:oC)(s:gB)(w:World)(h:dS w a b N)(hs:s.size<=1048576)(d:¬ni c N s [1,2,3,4,5,6]):
 Calls prog 5 #[oF c,.agg (dC a z b u N),.string s] w λe t=>SaV (rJ c N s).1 (.string (rJ c N s).2) w e t:=by
 have f:=h.bulk;have F:=yA (λW(m:kB w W)=>iO a b z u N W (h.files.z m) h.fit.len (h.tens.z m) (by omega) (tP (by omega)));have j:=yA (λW=>pM c W);have l:=yA (λW b u(O:nC W b N.ts)=>jG c N.now b u N.ts W O (fP (show vA N.ts+nB N.ts<=1900000 by omega)).2.1 (by omega));have m:=yA (λW=>qS s W hs);have R:pH c=false/\rJ c N s=(N,pB 1 4)\/pH c=true/\(N.up=false/\rJ c N s=(N,pB 1 4)\/N.up=true/\(kC c N.now N.ts=false/\rJ c N s=(N,pB 1 4)\/kC c N.now N.ts=true/\((aG s).2=false/\rJ c N s=(N,pB 1 1)\/(aG s).2=true/\rJ c N s=dK c N (aG s).1))):=by
  unfold rJ;have T:pH c=false->kC c N.now N.ts=false:=λh=>by unfold kC;rw[h];rfl
  cases h0:pH c
  .exact Ca ⟨rfl,Ma (La (T h0))⟩
  refine La ⟨rfl,?_⟩;cases o:N.up
  .exact Ca ⟨rfl,Ma (Ca rfl)⟩
  refine La ⟨rfl,?_⟩;cases B:kC c N.now N.ts
  .exact Ca ⟨rfl,Ma (La rfl)⟩
  refine La ⟨rfl,?_⟩;rw[Ja (by simp)];cases h3:(aG s).2
  .exact Ca ⟨rfl,Ma rfl⟩
  exact La ⟨rfl,Ja (by simp)⟩
 have J:(aG s).2=true->(1<=(aG s).1.K/\(aG s).1.K<=6):=λh=>(qX h).1.1;have HM:=yA (show ¬(pH c=true/\N.up=true/\kC c N.now N.ts=true/\(aG s).2=true) from λH=>d ⟨H.1,H.2.1,H.2.2.1,H.2.2.2,by have:=J H.2.2.2;simp only[Lb,Ed,Bf];omega⟩);clear d J;have Y:=yA (λW a b(o:eB W a N.d.fs)(B:nC W b N.ts)=>(⟨o,h.fit,B,h.bulk,h.rng,h.lsn,h.now⟩:dS W a b N));have v:=yA (λd=>qX (s:=s) d);clear h f;unfold tO at m;generalize rJ c N s=V at *;generalize aG s=D at *;obtain⟨D,h⟩:=D;dsimp only at *;unfold oF at *;have d:=jP;have r:=yA (NP.new (w:=w) (c:=c) (cs:=dC a z b u N));have K:=tF a z b u N 43;have G:=iF a z b u N;go_enter func5,ntmps5;go_upto_region 1 with fail;generalize (((w.alloc (.cells #[.int .i64 c.w,.int .i64 c.tl,.int .i64 c.ml,.int .i64 c.sh,.int .i64 c.ha,.int .i64 c.sg] 46)).alloc (.cells (dC a z b u N) 43)).alloc (.cells (dC none 0 none 0 qK) 43))=d at *;have g:=r.o.cells rfl;go_wp2_with fail;refine(F.o _ r.o.B).mono ?_;rintro e w1 ⟨n,p,o,q,rfl,d,O,f⟩;have P:=yA (r.o.z f);clear g;have g:=P.o.cells rfl;clear f r F K G;go_upto_region 2 with fail;refine nZ (C:=λW=>Code.wp prog _ _ _ W) P.o.N ?_;intro w2 Z M;have I:=yA (Y.o w2 n o (d.files.store P.o.N (bH _ _ _ _ _) M) (O.tens.store P.o.N (bH _ _ _ _ _) M));replace P:=yA (P.o.put Z M);clear d O Z M Y g;have g:=P.o.cells rfl;have K:=tF n p o q N 43;have G:=iF n p o q N;obtain⟨A,rfl⟩|⟨A,⟨L,rfl⟩|⟨L,⟨Q,rfl⟩|⟨Q,⟨U,rfl⟩|⟨U,E⟩⟩⟩⟩:=R
 rotate_left 4
 .exact absurd ⟨A,L,Q,U⟩ HM.o
 .rw[A]at j;clear l m v;go_wp2_with fail;apply aC (j.o _);intro y f;replace P:=yA (P.o.z f);replace I:=yA (I.o.z f);clear f g;have g:=P.o.cells rfl;go_wp2;have k:=yA (P.o.held (dC n p o q N));go_region_held3 (λt=>iB t (w.1.size+1) (dC n p o q N) 43)
   (first|with_reducible exact(k.o _ i).1|with_reducible exact(k.o _ eD.drew).1|exact(k.o _ i).2)
   (first|(go_at_call 17;refine aC (qE _ _ (by omega) (by omega)) ?_;intro x f;have i:kB y x:=(by with_reducible exact oB eD.drew f);have S:=(P.o.z i).R.box rfl))
  go_wp2;exact oJ rfl rfl rfl rfl (P.o.z i) (I.o.z i)
 .rw[L]at K G;rw[A]at j;clear l m v;go_wp2_with fail;apply aC (j.o _);intro y f;replace P:=yA (P.o.z f);replace I:=yA (I.o.z f);clear f g;have g:=P.o.cells rfl;go_wp2;have k:=yA (P.o.held (dC n p o q N));go_region_held3 (λt=>iB t (w.1.size+1) (dC n p o q N) 43)
   (first|with_reducible exact(k.o _ i).1|with_reducible exact(k.o _ eD.drew).1|exact(k.o _ i).2)
   (first|(go_at_call 17;refine aC (qE _ _ (by omega) (by omega)) ?_;intro x f;have i:kB y x:=(by with_reducible exact oB eD.drew f);have S:=(P.o.z i).R.box rfl))
  go_wp2;exact oJ rfl rfl rfl rfl (P.o.z i) (I.o.z i)
 .rw[L]at K G;rw[A]at j;rw[Q]at l;clear m v;go_wp2_with fail;apply aC (j.o _);intro y f;replace P:=yA (P.o.z f);replace I:=yA (I.o.z f);clear f g;have g:=P.o.cells rfl;go_wp2_with fail;apply aC (l.o _ _ _ I.o.tens);intro X f;replace P:=yA (P.o.z f);replace I:=yA (I.o.z f);clear f g;have g:=P.o.cells rfl;go_wp2;have k:=yA (P.o.held (dC n p o q N));go_region_held3 (λt=>iB t (w.1.size+1) (dC n p o q N) 43)
   (first|with_reducible exact(k.o _ i).1|with_reducible exact(k.o _ eD.drew).1|exact(k.o _ i).2)
   (first|(go_at_call 17;refine aC (qE _ _ (by omega) (by omega)) ?_;intro x f;have i:kB X x:=(by with_reducible exact oB eD.drew f);have S:=(P.o.z i).R.box rfl))
  go_wp2;exact oJ rfl rfl rfl rfl (P.o.z i) (I.o.z i)
 rw[L]at K G;rw[A]at j;rw[Q]at l;obtain rfl:h=false:=U;go_wp2_with fail;apply aC (j.o _);intro y f;replace P:=yA (P.o.z f);replace I:=yA (I.o.z f);clear f g;have g:=P.o.cells rfl;go_wp2_with fail;apply aC (l.o _ _ _ I.o.tens);intro X f;replace P:=yA (P.o.z f);replace I:=yA (I.o.z f);clear f g;have g:=P.o.cells rfl;go_wp2_with fail;refine(m.o _).mono ?_;rintro e d ⟨d,d,rfl,_,f⟩;replace P:=yA (P.o.z f);replace I:=yA (I.o.z f);clear f g;go_upto_region 5 with fail;refine tL (C:=λW=>Code.wp prog _ _ _ W) ?_;intro d f _ h;clear h;replace P:=yA (P.o.z f);replace I:=yA (I.o.z f);clear f;have g:=P.o.cells rfl;go_wp2;have k:=yA (P.o.held (dC n p o q N));go_region_held3 (λt=>iB t (w.1.size+1) (dC n p o q N) 43)
  (first|with_reducible exact(k.o _ i).1|with_reducible exact(k.o _ eD.drew).1|exact(k.o _ i).2)
  (first|(go_at_call 17;refine aC (qE _ _ (by omega) (by omega)) ?_;intro x f;have i:kB d x:=(by with_reducible exact oB eD.drew f);have S:=(P.o.z i).R.box rfl))
 go_wp2;exact oJ rfl rfl rfl rfl (P.o.z i) (I.o.z i)
theorem so(c:lC)(a b:iC)(f g:Nat)(N:oC)(s:gB)(w:World)(h:dS w a b N)(i:s.size<=1048576):
 Calls prog 5 #[oF c,.agg (dC a f b g N),.string s] w λe p=>SaV (rJ c N s).1 (.string (rJ c N s).2) w e p:=by
 by_cases n:ni c N s [1,2,3,4,5,6]
 .obtain ⟨j,k,l,m,o⟩:=n;simp only[Lb,Ed,Bf]at o;have d:(aG s).1.K∈[(1:Int)]\/(aG s).1.K∈[(2:Int),3,4]\/(aG s).1.K∈[(5:Int),6]:=by
   simp only[Lb,Ed,Bf];omega
  obtain d|d|d:=d;exact aRm c a b f g N s w h i ⟨j,k,l,m,d⟩;exact aRn c a b f g N s w h i ⟨j,k,l,m,d⟩;exact aRo c a b f g N s w h i ⟨j,k,l,m,d⟩
 .exact aRp c a b f g N s w h i n
end
theorem aTb{N:oC}(h:0<=szN N):(vA N.d.fs+bulk N.d.fs+(vA N.ts+nB N.ts):Int)+szN N=1048576:=by
 unfold szN at *;split at h;omega
 rename_i a;rw[Ja a];unfold oR at *;split at a
 .rename_i b;rw[Ma b]at h |-
  unfold xJ at *;split at h
  .rename_i c;rw[Ma c];omega
  omega
 omega
theorem aHl{a:List aB}(h:vA a+nB a<=1048576):KC a:=λi c=>by
 have b:=kU a i c;unfold iE at b;omega
theorem DT{ts:List aB}(h:vA ts+nB ts<=1900000):dD ts<=7600000:=by
 have:dD ts<=2*nB ts+2*vA ts:=by
  clear h;induction ts with
  |nil=>exact Oa _
  |cons t r a=>simp only[Zb,dD,sQ,nB,iE];omega
 omega
theorem aEv{c:lC}{N:oC}{s:gB}(b:CO N.d.fs)(p:vA N.ts+nB N.ts<=1048576):CO (rJ c N s).1.d.fs/\vA (rJ c N s).1.ts+nB (rJ c N s).1.ts<=1900000:=by
 have g:vA N.ts+nB N.ts<=1900000:=by omega
 have l:∀a:List vE,vA a+sD a<=240000->CO (pF c N a).1.d.fs/\vA (pF c N a).1.ts+nB (pF c N a).1.ts<=1900000:=λa h=>aGh b (by omega);rcases aQu c N s with⟨_,e⟩|⟨j,⟨_,e⟩|⟨_,⟨_,e⟩|⟨q,e⟩⟩⟩
 iterate 3 exact e ▸ ⟨b,g⟩
 rw[e];obtain⟨⟨_,_,_,_,_,k,u,i,_⟩,v,_⟩:=qX q;generalize (aG s).1=r at *;unfold dK;repeat' split
 all_goals first|exact⟨b,g⟩|skip
 .rename_i t _;obtain⟨_,_,_,n,o,_⟩:=aMw j r.T r.P (aSv t v) i k _ (Ia _);rw[Rb]at n o;exact l _ (by omega)
 iterate 2 exact l _ (by simp[sD]<;>omega)
 obtain ⟨_,_,_,m⟩:=dt p;obtain⟨w,f⟩:=aNr (c:=c) b (au (lsn:=N.lsn) (now:=N.now) m);refine⟨w,?_⟩;rcases f with f|f<;>rw[f]
 .exact g
 simp[nB]
theorem aRx(c:lC)(a b:iC)(u v:Nat)(N:oC)(s:gB)(w:World)(a0:oL w)(hU:vH w)(hT:wO w)(Z:eB w a N.d.fs)(hs:pL N.d.fs)(r:vA N.d.fs<=maxLen)(d:nC w b N.ts)(h:DW N.ts)(G:vA N.ts<=maxLen)(I:jz N.ts)(F:nU N.lsn)(H:nU N.now):
 qD 3 #[oF c,.agg (dC a u b v N),.string s] w (.bool true):=by
 obtain⟨m,m,m,m,m,m,m,K,m,o⟩:=aTw c 23;obtain⟨J,J,J,J,J,J,J,J,J,J,J,J,J,J,J,O⟩:=(show FN w N (dC a u b v N) from⟨a,u,b,v,rfl,Z,d⟩).r 33;rw[K];refine aKh (N:=N) (M:=(rJ c N s).1) (code:=(rJ c N s).2) (KM:=((1+3*vA N.d.fs+dD N.ts:Nat):Int)) (QM:=((1+3*vA (rJ c N s).1.d.fs+dD (rJ c N s).1.ts:Nat):Int)) (s1:=szN N) m o J O (λW t=>aAh a b u v N W (Z.z t) hs r (d.z t) h G) (λJ h=>?_);have m:=aTb h;have y:vA N.ts+nB N.ts<=1048576:=by omega
 have E:vA N.d.fs<=1048576:=by omega
 have p:CO N.d.fs:=⟨hs,E,by have:=VG N.d.fs;omega⟩
 obtain⟨Y,C⟩:=aEv (c:=c) (s:=s) p y;obtain⟨-,-,-,f⟩:=fP (ts:=N.ts) (by omega);obtain⟨-,-,-,m4⟩:=fP C;have i:=DT (ts:=N.ts) (by omega);have j:=DT C;have h:=Y.len;generalize O:rJ c N s=V at *;refine⟨λW=>by rw[<-K];exact jl _ _ _ _ _ _ W,λW t=>(aAp a b u v N W (Z.z t) E (d.z t) (by omega) (aHl (by omega))).mono λe z ⟨g,h,D,B,d⟩=>⟨_,D,⟨_,_,_,_,rfl,B⟩,d⟩,
  λW cs X=>?_,λW cs X t=>?_,λW cs Q h S=>?_,λW cs Q h S=>?_,λW A cs h B=>?_,λW A cs h B=>?_,λW cs h=>?_,by omega,by omega⟩
 .obtain ⟨k,m,l,n,rfl,o,q⟩:=X;rw[<-K,<-O];exact(so c k l m n N s W ⟨o,p,q,y,I,F,H⟩ J).mono λe z ⟨a,u,b,v,D,x,d,U⟩=>⟨_,D,⟨_,_,_,_,rfl,x,d⟩,U⟩
 .obtain ⟨k,m,l,n,rfl,o,q⟩:=X;rw[<-K,<-O];exact(nx c k l m n N s W ⟨o,p,q,y,I,F,H⟩ J (hU.z t) (a0.z t) (hT.z t)).mono λe z ⟨a,u,b,v,D,x,U⟩=>⟨_,D,⟨_,_,_,_,rfl,x⟩,U⟩
 .obtain ⟨k,m,l,n,rfl,o,q⟩:=h;obtain⟨L,P,O,R,rfl,T,x⟩:=S;exact MO k L l O m P n R N W o T r q x G f
 .obtain ⟨k,m,l,n,rfl,o,q⟩:=h;obtain⟨L,P,O,R,rfl,T,x⟩:=S;exact MO k L l O m P n R V.1 W o T (by unfold maxLen;omega) q x (by unfold maxLen;omega) m4
 .obtain ⟨k,m,l,n,rfl,o⟩:=h;exact(IV k l m n N A W o B (by omega)).mono λe z h=>⟨h.1,h.2.1⟩
 .obtain ⟨k,m,l,n,rfl,o⟩:=h;exact(IV k l m n V.1 A W o B (by omega)).mono λe z h=>⟨h.1,h.2.1,_,_,_,_,rfl,h.2.2.1,h.2.2.2⟩
 obtain ⟨k,m,l,n,rfl,o,q⟩:=h;exact ef k l m n (vA V.1.d.fs) V.1.d.c V.1.d.k V.1.d.cr V.1.d.fl V.1.d.dn V.1.l V.1.now V.1.lsn V.1.deg V.1.up V.1.ts W o q (by omega)
