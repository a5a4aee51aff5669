import Derived.Test.YtabgbmfcbobamaaGreatDoorJ17
import Derived.Test.YtabgbmfcbobamaaGreatDoorJ19
set_option maxRecDepth 100000
set_option maxHeartbeats 8000000
namespace Go.Proofs.YtabgbmfcbobamaaGreatDoor
open Go.RowKit Tryz
theorem oC.turned {S:Nat->Prop} {w q:World} {B:Nat} {a:Option Addr} {p:List dA} (h:oC w B a p) (n:gA S w q) (l:∀g,B<=g->g<w.heap.size->¬S g):oC q B a p:=by
 rcases h with h|⟨g,o,c,t,T,rfl,k,e,r,h⟩
 ·exact Ca h
 ·have m:=n.block g (aA e) (l g k (aA e));exact Ja ⟨g,o,c,t,T,rfl,k,m.trans e,r,fun i s=>(h i s).keep (fun j _=>World.cell?_of_block m) fun f b d _=>⟨n.block f b (l f d b),rfl⟩⟩
theorem VO {x:ByteArray}:x.toList.isEmpty=true ↔ x=ByteArray.empty:=by
 rw[List.isEmpty_iff];constructor
 ·intro h;exact toList_inj (by rw[h,ByteArray.toList_eq];rfl)
 ·intro h;rw[h,ByteArray.toList_eq];rfl
theorem pW {x:ByteArray}:x.toList.isEmpty=false ↔ x≠ByteArray.empty:=by rw[<-Bool.not_eq_true,VO]
theorem aHi (w:World) (a:Option Addr) (p:Nat) (b:List kA) (c k f g:Int) (y:Bool) (n:jM) (h:rk w a b n) (i:(bH b c k f g&&opB n)=false):WL w a p b c k f g y n:=by
 have B:Hid (vQ b c k f g y n=(6,[],0,0,0,0,false)):=by show _=_;unfold vQ;rw[Oa (by rw[i];simp)]
 unfold WL;obtain⟨o,x,Q,E,sz⟩:=n;obtain⟨z,H,S,m,G,I,-⟩:=h;have D:=bA z;have t:b.length<=maxLen:=by simp[maxLen];omega
 have F:bH b c k f g=false\/bH b c k f g=true/\(xA o 1 6=false\/xA o 1 6=true/\(mL x=false\/mL x=true/\o=5/\mL Q=false)):=by
  simp only[opB]at i;cases e1:bH b c k f g<;>cases e2:xA o 1 6<;>cases e3:mL x<;>simp_all
 clear i z;dsimp only at G I |-
 rcases F with A|⟨A,i|⟨i,u|⟨u,rfl,J⟩⟩⟩
 all_goals
  go_enter func71,ntmps71;go_wp2_with fail;refine(fJ A _ (((D.out.later (cA _ _)).later (cA _ _)).later (cA _ _)) H t m).mono ?_;rintro e Y ⟨rfl,j⟩;obtain⟨s,l,r,d⟩:=GN j;have C:=bA d;obtain⟨T,U,V,W,X⟩:=l.c5;obtain⟨K,L,M,N,O,P⟩:=r.c6;have q:=r.free;clear s l r d j;go_wp2_with(first
   |(go_at_call 25;refine(nC (by assumption) _).mono ?_;rintro e R ⟨rfl,rfl⟩)
   |(go_at_call 109;refine(pG (by assumption) _ (by assumption)).mono ?_;rintro e R ⟨rfl,rfl⟩))
  refine bodyPost_ret (v:=.tuple #[.agg #[.slice none 0 0,.int .i64 0,.int .i64 0,.int .i64 0,.int .i64 0,.bool false],.int .i64 6]) (by simp[results,results71,go_sem,K,L,M,N,O,P]) rfl ?_;rw[B.out];refine⟨none,0,rfl,Ca rfl,?_⟩;have h:=C.out;iterate 6 (refine Below.setCell ?_ (by first|(simp;done)|(simp;omega)) _)
  exact h
theorem aGm (w:World) (a:Option Addr) (P:Nat) (f:List kA) (c k d g:Int) (l:Bool) (i:jM) (h:rk w a f i) (hq:bH f c k d g=true) (H:opB i=true):WL w a P f c k d g l i:=by
 obtain⟨Z,x,-,s,hsc,hk0,hk1,-⟩:=bY hq;have Y:l=true/\vQ f c k d g l i=(1,f,c,k,d,g,true)\/l=false/\(k=1000000000000000/\vQ f c k d g l i=(2,f,c,k,d,g,false)\/(k==1000000000000000)=false/\
  (d=k+1/\decide (k+1=0)=false/\vQ f c k d g l i=(1,f,c,k+1,d,g,true)\/(d=0\/decide (d=0)=false/\(k+1==d)=false)/\
   (g=k+1/\decide (k+1=0)=false/\vQ f c k d g l i=(2,f,c,k+1,d,g,false)\/(g=0\/decide (g=0)=false/\(k+1==g)=false)/\vQ f c k d g l i=((eZ f c i).1,(eZ f c i).2,c,k+1,d,g,false)))):=by
  have K:k+1≠0:=by omega
  have hr:=fun c' k' d'=>@ZY f c k d g l i c' k' d' hq H;have hd:=fun k' d'=>@vy f c k d g l i k' d' hq H;cases l
  ·refine Ja ⟨rfl,?_⟩;by_cases J:k=1000000000000000
   ·exact Ca ⟨J,hr _ _ _ (by simp[aL,J]) (by decide)⟩
   refine Ja ⟨by simpa using J,?_⟩;by_cases T:k+1=d
   ·exact Ca ⟨T.symm,by simpa using K,hr _ _ _ (by subst T;simp[aL,J,K]) (by decide)⟩
   have h2':d=0\/decide (d=0)=false/\(k+1==d)=false:=by by_cases h:d=0<;>simp[h,T]
   refine Ja ⟨h2',?_⟩;by_cases h3:k+1=g
   ·exact Ca ⟨h3.symm,by simpa using K,hr _ _ _ (by subst h3;simp[aL,J,T,K]) (by decide)⟩
   ·exact Ja ⟨by by_cases h:g=0<;>simp[h,h3],hd _ _ (by simp[aL,J,T,h3])⟩
  ·exact Ca ⟨rfl,hr _ _ _ (by simp[aL]) (by decide)⟩
 unfold WL;have p:=h.data;have A:=aDp Z;obtain⟨hf,hs,hl,hsum,hn,ht,-⟩:=h;have U:xA i.kind 1 6=true/\mL i.name=true/\(i.kind=5/\mL i.tq=true\/(i.kind==5)=false):=by
  simp only[opB,Sa,He,Eb]at H;exact⟨H.1.1,H.1.2,(Decidable.em (i.kind=5)).elim (fun h=>Ca ⟨h,H.2.resolve_left (fun e=>e h)⟩) fun h=>Ja (by simpa using h)⟩
 obtain⟨kd,nm,tq,S,sz⟩:=i;dsimp only at hn ht p U |-
 obtain⟨hb,hnm,U⟩:=U;have HF:=bA hf;have M:=bA Y;have hml:f.length<=maxLen:=by simp[maxLen];omega
 have hw1:IntKind.i64.wrap (k+1)=k+1:=by rw[IntKind.wrap_i64];omega
 have HAS:=bA (fun W b (hF:qA W b f)=>(⟨hF,A,x,hsc,s,p⟩:OE W b f c ⟨kd,nm,tq,S,sz⟩));clear hf Y H Z A s hsc p;rcases U with⟨rfl,hto⟩|U
 all_goals
  go_enter func71,ntmps71;go_wp2_with fail;refine(fJ hq _ (((HF.out.later (cA _ _)).later (cA _ _)).later (cA _ _)) hs hml hsum).mono ?_;rintro e w1 ⟨rfl,X⟩;obtain⟨G,I,hR,n⟩:=GN X;obtain⟨o0,o1,o2,o3,o4⟩:=I.c5;obtain⟨x0,-,-,-,-,-⟩:=G.c6;have hRlt:=aA hR;have hn1:w.heap.size<w1.heap.size:=by omega
  have hn2:¬w.heap.size=w1.heap.size:=by omega
  obtain⟨a1,j,W2,B,a0,m,V⟩:=JT w1 a P f (HF.out.later n) hl;have O:=bA B;have N:=bA a0;have D:=bA V;have E:=bA (G.later m);have F:=bA (hR.later m);have L:=bA (nA n m);obtain⟨d0,d1,d2,d3,d4,d5⟩:=E.out.c6;obtain⟨z0,z1,z2,z3,z4⟩:=(I.later m).c5;have y:=E.out.free;obtain⟨r0,r1,r2,r3,r4,r5⟩:=F.out.c6;have q:=F.out.free;clear X G I hR n B a0 m V;go_upto_region 4 with(first
   |(go_at_call 25;refine(nC (by assumption) _).mono ?_;rintro e w3 ⟨rfl,rfl⟩)
   |(go_at_call 109;refine(pG (by assumption) _ (by assumption)).mono ?_;rintro e w3 ⟨rfl,rfl⟩)
   |(at_builtin;refine Lib.wpList_append_run _ rfl _ _ _ _ rfl _ _ rfl rfl _ _ O.out ?_))
  clear o0 o1 o2 o3 o4 x0 hq;rcases M.out with⟨rfl,C⟩|⟨rfl,⟨rfl,C⟩|⟨hm,⟨rfl,K,C⟩|⟨rfl|⟨s,hc2⟩,⟨rfl,K,C⟩|⟨rfl|⟨hf1,hf2⟩,C⟩⟩⟩⟩
  all_goals
   have C:=bA C;clear M;try have hc3:(d != 0)=true:=by simpa using s
   try have hf3:(g != 0)=true:=by simpa using hf1
   go_wp2_with(go_at_call 110;refine Calls.mono (vf _ a1 j f c (k+1) _ _ false ⟨_,nm,tq,S,sz⟩ (HAS.out _ _ (DH (DH N.out (fun b o e=>by have:=D.out b o e;show w.heap.size<b;omega) _) (fun b o e=>by have:=D.out b o e;show w.heap.size<b;omega) _)) hb) ?_;rintro e w5 ⟨a5,Q,rfl,u,r⟩;have t:=((E.out.set 0 (.slice a1 f.length j)).set 2 (.int .i64 (k+1))).later r;have z:=(F.out.but (((dB.refl w.heap.size W2).setCell 0 (.slice a1 f.length j)).setCell 2 (.int .i64 (k+1))) (by omega)).later r;have HX1:=bA (PC u (by simpa[ri]using t));have HX2:=bA (PC u z);have HF5:=bA u;have HB5:=bA (nA ((L.out.setCell (by simp) _).setCell (by simp) _) r);clear d0 d1 d2 d3 d4 d5 y z0 z1 z2 z3 z4 r0 r1 r2 r3 r4 r5 q u r;obtain⟨d0,d1,d2,d3,d4,d5⟩:=eA.c6 (by simpa using t);obtain⟨r0,r1,r2,r3,r4,r5⟩:=z.c6;have y:=t.free;have q:=z.free;clear t z;generalize eZ f c _=R at *;obtain⟨code,fs'⟩:=R);refine bodyPost_ret (v:=?_) (by simp[results,results71,go_sem,r0,r1,r2,r3,r4,r5];rfl) rfl ?_;rw[C.out];first
    |refine⟨a5,Q,rfl,?_,?_⟩
     ·have h:=HF5.out
      repeat (refine eh ?_ (by first|exact HX2.out|exact HX1.out) _)
      exact h
     ·have h:=HB5.out
      repeat (refine Below.setCell ?_ (by first|(simp;done)|(simp;omega)) _)
      exact h
    |refine⟨a1,j,rfl,?_,?_⟩
     ·have h:=N.out
      repeat (refine DH ?_ (fun b o e=>by have:=D.out b o e;simp;omega) _)
      exact h
     ·have h:=L.out
      repeat (refine Below.setCell ?_ (by first|(simp;done)|(simp;omega)) _)
      exact h
theorem VM (w:World) (a:Option Addr) (b:Nat) (d:List kA) (c k f g:Int) (j:Bool) (e:jM) (h:rk w a d e):WL w a b d c k f g j e:=by
 by_cases i:(bH d c k f g&&opB e)=true
 ·rw[Sa]at i;exact aGm w a b d c k f g j e h i.1 i.2
 ·exact aHi w a b d c k f g j e h (by simpa using i)
def xY (D:pE) (g:jM) (b:pE) (f:Nat):Prop:=
 ∀a h W,qA W a D.fs->Calls prog 71 #[.agg #[.slice a D.fs.length h,.int .i64 D.c,.int .i64 D.k,.int .i64 D.cr,.int .i64 D.fl,.bool D.dn],.agg #[.int .i64 g.kind,.string g.name,.string g.tq,.string g.data,.int .i64 g.size]] W fun e j=>
  ∃i d,e=.returned (.tuple #[.agg #[.slice i b.fs.length d,.int .i64 b.c,.int .i64 b.k,.int .i64 b.cr,.int .i64 b.fl,.bool b.dn],.int .i64 f])/\qA j i b.fs/\Below W.heap.size W j
theorem xq {D:pE} {b:jM} (h:CU D.fs) (g:b.name.size<=maxLen) (i:b.tq.size<=maxLen) (e:b.data.size<=200000000):xY D b (eF D b).1 (eF D b).2:=fun a d W f=>
 VM W a d D.fs D.c D.k D.cr D.fl D.dn b ⟨f,h.r9,h.len,h.sum,g,i,e⟩
theorem EP {w:World} {a:Option Addr} {d:List kA} {P:Nat} {cs:Array Value} {t:TypeId} (h:qA w a d) (l:eA w P cs t) (k:∀(j:Nat) (s:ByteArray),cs[j]?≠some (Value.string s)):OD a d P:=by
 rcases h with h|⟨b,o,e,_,h⟩
 ·exact Ca h
 ·by_cases c:d=[]
  ·exact Ca c
  ·refine Ja ⟨b,o,e,fun g=>?_⟩;subst g;have i:0<d.length:=List.length_pos_iff.2 c;have f:=(h 0 i).1;rw[l.cell]at f;exact k _ _ f
theorem oP {w:World} {a:Option Addr} {c:List kA} {P:Nat} {x:Option Addr} {n d:Nat} {f g i k:Int} {l m o p:IntKind} {b:Bool} {t:TypeId} (h:qA w a c) (e:eA w P #[.slice x n d,.int l f,.int m g,.int o i,.int p k,.bool b] t):OD a c P:=
 EP h e fun j _=>by
  match j with
  |0=>simp
  |1=>simp
  |2=>simp
  |3=>simp
  |4=>simp
  |5=>simp
  |n+6=>simp
theorem CZ {w:World} {a:Option Addr} {b:List kA} {P:Nat} {d e f:Int} {g i k:IntKind} {t:TypeId} (h:qA w a b) (c:eA w P #[.int g d,.int i e,.int k f] t):OD a b P:=
 EP h c fun j _=>by
  match j with
  |0=>simp
  |1=>simp
  |2=>simp
  |n+3=>simp
theorem PJ {w a:World} {x y z u:Array Value} {tx ty tz tu:TypeId} (b:Below ((((w.alloc (.cells x tx)).alloc (.cells y ty)).alloc (.cells z tz)).alloc (.cells u tu)).heap.size ((((w.alloc (.cells x tx)).alloc (.cells y ty)).alloc (.cells z tz)).alloc (.cells u tu)) a):
 eA a w.heap.size x tx/\eA a (w.heap.size+1) y ty/\eA a (w.heap.size+1+1) z tz/\eA a (w.heap.size+1+1+1) u tu/\Below w.heap.size w a:=by
 refine⟨?_,?_,?_,?_,nA (nA (nA (nA (cA _ _) (cA _ _)) (cA _ _)) (cA _ _)) b⟩
 ·exact((((kT w x tx).later (cA _ _)).later (cA _ _)).later (cA _ _)).later b
 ·have h:=(((kT (w.alloc (.cells x tx)) y ty).later (cA _ (.cells z tz))).later (cA _ (.cells u tu))).later b;simpa using h
 ·have h:=((kT ((w.alloc (.cells x tx)).alloc (.cells y ty)) z tz).later (cA _ (.cells u tu))).later b;simpa using h
 ·have h:=(kT (((w.alloc (.cells x tx)).alloc (.cells y ty)).alloc (.cells z tz)) u tu).later b;simpa using h
section
variable {w W W':World} {P Q:Nat} {a a':Option Addr} {cap cap':Nat} {fs fs':List kA} {c k cr fl c' k' cr' fl':Int} {dn dn':Bool} {lf ll ls:Int}
theorem KH {S:Nat->Prop} (h:qA W a fs) (f:gA S W W') (m:∀b o,a=some ⟨b,o,none⟩->S b->fs=[]):qA W' a fs:=by
 rcases h with h|⟨b,o,rfl,d,h⟩
 ·exact Ca h
 ·by_cases e:S b
  ·exact Ca (m b o rfl e)
  ·have l:∀j,W'.cell? ⟨b,j,none⟩=W.cell? ⟨b,j,none⟩:=fun j=>World.cell?_of_block (f.block b d e);exact Ja ⟨b,o,rfl,by have:=f.size;omega,fun i g=>by simp only[l];exact h i g⟩
theorem AF (h:OD a fs P) {b o:Nat} (e:a=some ⟨b,o,none⟩) (i:b=P):fs=[]:=by
 rcases h with h|⟨d,l,f,j⟩
 ·exact h
 ·obtain⟨g,-⟩:b=d/\o=l:=by simpa using e.symm.trans f
  exact absurd (g.symm.trans i) j
def PX (b:World) (P:Nat) (fs:List kA) (c k cr fl:Int) (dn:Bool) (d:World):Prop:=∃a cap,b.heap.size<=P/\eA d P #[.slice a fs.length cap,.int .i64 c,.int .i64 k,.int .i64 cr,.int .i64 fl,.bool dn] 78/\qA d a fs/\Below b.heap.size b d
theorem qi {B P:Nat} {d e f g i j:Value} (h:Below B w W) (b:B<=P):Below B w ((((((W.setCell ⟨P,0,none⟩ d).setCell ⟨P,1,none⟩ e).setCell ⟨P,2,none⟩ f).setCell ⟨P,3,none⟩ g).setCell ⟨P,4,none⟩ i).setCell ⟨P,5,none⟩ j):=(((((h.setCell b _).setCell b _).setCell b _).setCell b _).setCell b _).setCell b _
theorem gd {b:World} (e:qA W a fs) (d:Below b.heap.size b W):PX b W.heap.size fs c k cr fl dn (W.alloc (.cells #[.slice a fs.length cap,.int .i64 c,.int .i64 k,.int .i64 cr,.int .i64 fl,.bool dn] 78)):=⟨a,cap,d.size,kT _ _ _,e.later (cA _ _),nA d (cA _ _)⟩
theorem ge {b:World} (f:qA W a fs) (d:Below b.heap.size b W) (h:b.heap.size<=P) (g:eA W P #[.slice none 0 0,.int .i64 0,.int .i64 0,.int .i64 0,.int .i64 0,.bool false] 78):PX b P fs c k cr fl dn ((((((W.setCell ⟨P,0,none⟩ (.slice a fs.length cap)).setCell ⟨P,1,none⟩ (.int .i64 c)).setCell ⟨P,2,none⟩ (.int .i64 k)).setCell ⟨P,3,none⟩ (.int .i64 cr)).setCell ⟨P,4,none⟩ (.int .i64 fl)).setCell ⟨P,5,none⟩ (.bool dn)):=
 ⟨a,cap,h,AK g,f.apart (dh f g) (aH _ _ _ _ _ _),d.trans ((gA.but (aH _ _ _ _ _ _)).below d.size fun i j e=>by omega)⟩
theorem JA {D:pE} {op:jM} (h:CU D.fs) (b:op.name.size<=maxLen) (d:op.tq.size<=maxLen) (e:op.data.size<=1048576):∃fs c k cr fl dn x,eF D op=(⟨fs,c,k,cr,fl,dn⟩,x)/\CU fs/\xY D op ⟨fs,c,k,cr,fl,dn⟩ x:=
 ⟨_,_,_,_,_,_,_,rfl,qV h b d,xq h b d (Ra e (by decide))⟩
end
