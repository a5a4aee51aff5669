import Derived.Test.YtjpeimianeiegaaGreatDoorJ28
set_option maxRecDepth 100000
set_option maxHeartbeats 8000000
namespace Go.Proofs.YtjpeimianeiegaaGreatDoor
open Go.RowKit Tryz
theorem gd (W:World) (a:Option Addr) (l:Nat) (d:List dA) (v:iA W a d) (x:d.length<=1048576):
 ∃g c s,(Builtin.append_ #[28,28] 28 #[.slice (some ⟨W.heap.size,0,none⟩) 0 0,.slice a d.length l]).run prog (W.alloc (.cells #[] 98))=.ok (.slice g d.length c) s/\
  iA s g d/\Below W.heap.size W s/\∀b o,g=some ⟨b,o,none⟩->W.heap.size<=b:=by
 obtain⟨i,w,p,q,r⟩:=tJ;cases a with
 |none=>
  have y:d=[]:=by
   rcases v with h|⟨b,o,e,_⟩
   ·exact h
   ·exact absurd e (by simp)
  subst y;refine⟨some ⟨W.heap.size,0,none⟩,0,W.alloc (.cells #[] 98),?_,Ba rfl,cA _ _,fun b o e=>by simp at e;omega⟩;simp[Builtin.append_,run_underlying underlying28,sizeOf,typeInfo,w,Builtin.lenOf,Builtin.firstCells,storeCells]
 |some t=>
  have m:(W.alloc (.cells #[] 98)).ownsRow W.heap.size 98 3 (.slice (some ⟨W.heap.size,0,none⟩) 0 0) 0 []:=
   ⟨rfl,Ea ⟨W.heap.size,0,#[],rfl,Da _,heap_alloc_new _ _,Da _,Ha _,rfl,rfl⟩⟩
  have f:∀j u,(flat d)[j]?=some u->(W.alloc (.cells #[] 98)).cell? (t.add j)=some u:=by
   rcases v.later (cA W (.cells #[] 98)) with rfl|⟨b,o,e,_,h⟩
   ·intro j u h;simp[flat]at h
   ·simp only[Ja]at e;subst e;exact jM h
  obtain⟨E,D,C,n,z,_,_⟩:=run_append_own_at (P:=prog) (W.alloc (.cells #[] 98)) W.heap.size 28 28 98 i _ 3 40 underlying28 w p q r rfl (by omega) (.slice (some ⟨W.heap.size,0,none⟩) 0 0) 0 [] m t d.length l (flat d) (pD d) f (vE d) (by simp[maxLen];omega) (by omega) (by simp);simp only[Oa,Jb]at n;obtain⟨g,c,rfl,B⟩:=fK n;refine⟨g,c,D,C,B.files,(cA _ _).grown z (by simp) (fun k A=>?_),fun b o e=>oI n b (by rw[e];rfl)⟩;simp[Value.ownBlock]at A;omega
def eh (w:World) (a:Option Addr) (f:Nat) (j:List dA) (c k g i:Int) (h:Bool) (b:uR):Prop:=
 Calls prog 19 #[.agg #[.slice a j.length f,.int .i64 c,.int .i64 k,.int .i64 g,.int .i64 i,.bool h],.agg #[.int .i64 b.kind,.string b.name,.string b.tq,.string b.data,.int .i64 b.size]] w fun e m=>
  ∃l d,e=.returned (aQc (yP j c k g i h b) l d)/\iA m l (yP j c k g i h b).2.1/\Below w.heap.size w m
structure aEa (w:World) (a:Option Addr) (fs:List dA) (op:uR):Prop where
 files:iA w a fs
 r9:mK fs
 len:fs.length≤1048576
 sum:xA fs≤1000000000
 name:op.name.size≤maxLen
 tq:op.tq.size≤maxLen
 data:op.data.size≤200000000
theorem GY {w:World} {a:Option Addr} {d:List dA} (h:iA w a d) {p:Addr} (k:∀b o,a=some ⟨b,o,none⟩->p.block<b) (v:Value):iA (w.setCell p v) a d:=by
 rcases h with h|⟨b,o,rfl,c,h⟩
 ·exact Ba h
 ·have e:=Below.heap_setCell w p v b (by have:=k b o rfl;omega);have g:∀j,(w.setCell p v).cell? ⟨b,j,none⟩=w.cell? ⟨b,j,none⟩:=fun j=>World.cell?_of_block e;exact Ea ⟨b,o,rfl,by simpa[World.setCell]using c,fun i f=>by simp only[g];exact h i f⟩
theorem lu {f:List dA} {c k d e:Int} {g:Bool} {i:uR} {a:Nat} {h:Int} {b:Bool} (n:vC f c k d e=true) (m:dr i=true) (l:cC k d e g=(a,h,b)) (j:a≠0):yP f c k d e g i=(a,f,c,h,d,e,b):=by
 unfold yP;rw[Ga (by rw[n,m];rfl)];unfold lG;rw[l,Ca j]
theorem aHi {e:List dA} {c k b d:Int} {g:Bool} {f:uR} {h:Int} {a:Bool} (l:vC e c k b d=true) (j:dr f=true) (i:cC k b d g=(0,h,a)):yP e c k b d g f=((dM e c f).1,(dM e c f).2,c,h,b,d,a):=by
 unfold yP;rw[Ga (by rw[l,j];rfl)];unfold lG;rw[i,Ga rfl]
theorem aOf (a:Option Addr) (n b:Nat) (c k d f:Int) (e:Bool) (j:Nat) (s:ByteArray):(#[.slice a n b,.int .i64 c,.int .i64 k,.int .i64 d,.int .i64 f,.bool e]:Array Value)[j]?≠some (.string s):=by
 rcases j with _|_|_|_|_|_|j<;>simp
theorem VD {w:World} {D:Nat} {a:Option Addr} {i:List dA} (h:iA w a i) {p:Option Addr} {n f:Nat} {c k q s:Int} {r:Bool} (t:aDz w D p n f c k q s r):i=[]\/∀b o,a=some ⟨b,o,none⟩->b≠D:=by
 by_cases m:i=[]
 ·exact Ba m
 ·right;intro b o e j;have d:=Sg.2 m;obtain⟨u,v,g,_,l,_,_⟩:=h.at d;rw[e]at g;simp only[Ja,Addr.mk.injEq,Ub]at g;obtain⟨rfl,rfl⟩:=g;subst j;rw[lA.cell t]at l;exact aOf _ _ _ _ _ _ _ _ _ _ l
theorem qw {w:World} {a:Option Addr} {d:List dA} (h:iA w a d) {p:Addr} (c:d=[]\/∀b o,a=some ⟨b,o,none⟩->b≠p.block) (v:Value):iA (w.setCell p v) a d:=by
 rcases h with h|⟨b,o,rfl,e,h⟩
 ·exact Ba h
 ·rcases c with c|c
  ·exact Ba c
  ·have f:=Below.heap_setCell w p v b (c b o rfl);have k:∀j,(w.setCell p v).cell? ⟨b,j,none⟩=w.cell? ⟨b,j,none⟩:=fun j=>World.cell?_of_block f;exact Ea ⟨b,o,rfl,by simpa[World.setCell]using e,fun i g=>by simp only[k];exact h i g⟩
theorem aQh (w:World) (a:Option Addr) (p:Nat) (b:List dA) (c k f g:Int) (y:Bool) (n:uR) (h:aEa w a b n) (i:(vC b c k f g&&dr n)=false):eh w a p b c k f g y n:=by
 have B:Hid (yP b c k f g y n=(6,[],0,0,0,0,false)):=by show _=_;unfold yP;rw[Ca (by rw[i];simp)]
 unfold eh;obtain⟨o,x,Q,E,Y⟩:=n;obtain⟨z,H,S,m,G,I,-⟩:=h;have D:=bA z;have t:b.length<=maxLen:=by simp[maxLen];omega
 have F:vC b c k f g=false\/vC b c k f g=true/\(uA o 1 6=false\/uA o 1 6=true/\(wF x=false\/wF x=true/\o=5/\wF Q=false)):=by
  simp only[dr]at i;cases e1:vC b c k f g<;>cases e2:uA o 1 6<;>cases e3:wF x<;>simp_all
 clear i z;dsimp only at G I |-
 rcases F with A|⟨A,i|⟨i,u|⟨u,rfl,J⟩⟩⟩
 all_goals
  go_enter func19,ntmps19;go_wp2_with fail;refine(gI A _ (((D.out.later (cA _ _)).later (cA _ _)).later (cA _ _)) H t m).mono ?_;rintro e Z ⟨rfl,j⟩;obtain⟨s,l,r,d⟩:=LI j;have C:=bA d;obtain⟨T,U,V,W,X⟩:=l.c5;obtain⟨K,L,M,N,O,P⟩:=r.c6;have q:=r.free;clear s l r d j;go_wp2_with(first
   |(go_at_call 41;refine(yC (by assumption) _).mono ?_;rintro e R ⟨rfl,rfl⟩)
   |(go_at_call 43;refine(cH (by assumption) _ (by assumption)).mono ?_;rintro e R ⟨rfl,rfl⟩))
  refine bodyPost_ret (v:=.tuple #[.agg #[.slice none 0 0,.int .i64 0,.int .i64 0,.int .i64 0,.int .i64 0,.bool false],.int .i64 6]) (by simp[results,results19,go_sem,K,L,M,N,O,P]) rfl ?_;rw[B.out];refine⟨none,0,rfl,Ba rfl,?_⟩;have h:=C.out;iterate 6 (refine Below.setCell ?_ (by first|(simp;done)|(simp;omega)) _)
  exact h
theorem aPv (w:World) (a:Option Addr) (P:Nat) (f:List dA) (c k d g:Int) (l:Bool) (i:uR) (h:aEa w a f i) (hq:vC f c k d g=true) (H:dr i=true):eh w a P f c k d g l i:=by
 obtain⟨Z,x,-,s,hsc,hk0,hk1,-⟩:=dD hq;have Y:l=true/\yP f c k d g l i=(1,f,c,k,d,g,true)\/l=false/\(k=1000000000000000/\yP f c k d g l i=(2,f,c,k,d,g,false)\/(k==1000000000000000)=false/\
  (d=k+1/\decide (k+1=0)=false/\yP f c k d g l i=(1,f,c,k+1,d,g,true)\/(d=0\/decide (d=0)=false/\(k+1==d)=false)/\
   (g=k+1/\decide (k+1=0)=false/\yP f c k d g l i=(2,f,c,k+1,d,g,false)\/(g=0\/decide (g=0)=false/\(k+1==g)=false)/\yP f c k d g l i=((dM f c i).1,(dM f c i).2,c,k+1,d,g,false)))):=by
  have K:k+1≠0:=by omega
  have hr:=fun c' k' d'=>@lu f c k d g l i c' k' d' hq H;have hd:=fun k' d'=>@aHi f c k d g l i k' d' hq H;cases l
  ·refine Ea ⟨rfl,?_⟩;by_cases J:k=1000000000000000
   ·exact Ba ⟨J,hr _ _ _ (by simp[cC,J]) (by decide)⟩
   refine Ea ⟨by simpa using J,?_⟩;by_cases T:k+1=d
   ·exact Ba ⟨T.symm,by simpa using K,hr _ _ _ (by subst T;simp[cC,J,K]) (by decide)⟩
   have h2':d=0\/decide (d=0)=false/\(k+1==d)=false:=by by_cases h:d=0<;>simp[h,T]
   refine Ea ⟨h2',?_⟩;by_cases h3:k+1=g
   ·exact Ba ⟨h3.symm,by simpa using K,hr _ _ _ (by subst h3;simp[cC,J,T,K]) (by decide)⟩
   ·exact Ea ⟨by by_cases h:g=0<;>simp[h,h3],hd _ _ (by simp[cC,J,T,h3])⟩
  ·exact Ba ⟨rfl,hr _ _ _ (by simp[cC]) (by decide)⟩
 unfold eh;have p:=h.data;have A:=jL Z;obtain⟨hf,hs,hl,hsum,hn,ht,-⟩:=h;have U:uA i.kind 1 6=true/\wF i.name=true/\(i.kind=5/\wF i.tq=true\/(i.kind==5)=false):=by
  simp only[dr,Na,Bd,Ya]at H;exact⟨H.1.1,H.1.2,(Decidable.em (i.kind=5)).elim (fun h=>Ba ⟨h,H.2.resolve_left (fun e=>e h)⟩) fun h=>Ea (by simpa using h)⟩
 obtain⟨kd,nm,tq,S,sz⟩:=i;dsimp only at hn ht p U |-
 obtain⟨hb,hnm,U⟩:=U;have HF:=bA hf;have M:=bA Y;have hml:f.length<=maxLen:=by simp[maxLen];omega
 have hw1:IntKind.i64.wrap (k+1)=k+1:=by rw[IntKind.wrap_i64];omega
 have HAS:=bA (fun W b (hF:iA W b f)=>(⟨hF,A,x,hsc,s,p⟩:UD W b f c ⟨kd,nm,tq,S,sz⟩));clear hf Y H Z A s hsc p;rcases U with⟨rfl,hto⟩|U
 all_goals
  go_enter func19,ntmps19;go_wp2_with fail;refine(gI hq _ (((HF.out.later (cA _ _)).later (cA _ _)).later (cA _ _)) hs hml hsum).mono ?_;rintro e w1 ⟨rfl,X⟩;obtain⟨G,I,hR,n⟩:=LI X;obtain⟨o0,o1,o2,o3,o4⟩:=I.c5;obtain⟨x0,-,-,-,-,-⟩:=G.c6;have hRlt:=aA hR;have hn1:w.heap.size<w1.heap.size:=by omega
  have hn2:¬w.heap.size=w1.heap.size:=by omega
  obtain⟨a1,j,W2,B,a0,m,V⟩:=gd w1 a P f (HF.out.later n) hl;have O:=bA B;have N:=bA a0;have D:=bA V;have E:=bA (G.later m);have F:=bA (hR.later m);have L:=bA (pA n m);obtain⟨d0,d1,d2,d3,d4,d5⟩:=E.out.c6;obtain⟨z0,z1,z2,z3,z4⟩:=(I.later m).c5;have y:=E.out.free;obtain⟨r0,r1,r2,r3,r4,r5⟩:=F.out.c6;have q:=F.out.free;clear X G I hR n B a0 m V;go_upto_region 4 with(first
   |(go_at_call 41;refine(yC (by assumption) _).mono ?_;rintro e w3 ⟨rfl,rfl⟩)
   |(go_at_call 43;refine(cH (by assumption) _ (by assumption)).mono ?_;rintro e w3 ⟨rfl,rfl⟩)
   |(at_builtin;refine Lib.wpList_append_run _ rfl _ _ _ _ rfl _ _ rfl rfl _ _ O.out ?_))
  clear o0 o1 o2 o3 o4 x0 hq;rcases M.out with⟨rfl,C⟩|⟨rfl,⟨rfl,C⟩|⟨hm,⟨rfl,K,C⟩|⟨rfl|⟨s,hc2⟩,⟨rfl,K,C⟩|⟨rfl|⟨hf1,hf2⟩,C⟩⟩⟩⟩
  all_goals
   have C:=bA C;clear M;try have hc3:(d != 0)=true:=by simpa using s
   try have hf3:(g != 0)=true:=by simpa using hf1
   go_wp2_with(go_at_call 44;refine Calls.mono (aFw _ a1 j f c (k+1) _ _ false ⟨_,nm,tq,S,sz⟩ (HAS.out _ _ (GY (GY N.out (fun b o e=>by have:=D.out b o e;show w.heap.size<b;omega) _) (fun b o e=>by have:=D.out b o e;show w.heap.size<b;omega) _)) hb) ?_;rintro e w5 ⟨a5,Q,rfl,u,r⟩;have t:=((E.out.set 0 (.slice a1 f.length j)).set 2 (.int .i64 (k+1))).later r;have z:=(F.out.but (((eD.refl w.heap.size W2).setCell 0 (.slice a1 f.length j)).setCell 2 (.int .i64 (k+1))) (by omega)).later r;have HX1:=bA (VD u (by simpa[aDz]using t));have HX2:=bA (VD u z);have HF5:=bA u;have HB5:=bA (pA ((L.out.setCell (by simp) _).setCell (by simp) _) r);clear d0 d1 d2 d3 d4 d5 y z0 z1 z2 z3 z4 r0 r1 r2 r3 r4 r5 q u r;obtain⟨d0,d1,d2,d3,d4,d5⟩:=lA.c6 (by simpa using t);obtain⟨r0,r1,r2,r3,r4,r5⟩:=z.c6;have y:=t.free;have q:=z.free;clear t z;generalize dM f c _=R at *;obtain⟨code,fs'⟩:=R);refine bodyPost_ret (v:=?_) (by simp[results,results19,go_sem,r0,r1,r2,r3,r4,r5];rfl) rfl ?_;rw[C.out];first
    |refine⟨a5,Q,rfl,?_,?_⟩
     ·have h:=HF5.out
      repeat (refine qw ?_ (by first|exact HX2.out|exact HX1.out) _)
      exact h
     ·have h:=HB5.out
      repeat (refine Below.setCell ?_ (by first|(simp;done)|(simp;omega)) _)
      exact h
    |refine⟨a1,j,rfl,?_,?_⟩
     ·have h:=N.out
      repeat (refine GY ?_ (fun b o e=>by have:=D.out b o e;simp;omega) _)
      exact h
     ·have h:=L.out
      repeat (refine Below.setCell ?_ (by first|(simp;done)|(simp;omega)) _)
      exact h
theorem bs (w:World) (a:Option Addr) (b:Nat) (d:List dA) (c k f g:Int) (j:Bool) (e:uR) (h:aEa w a d e):eh w a b d c k f g j e:=by
 by_cases i:(vC d c k f g&&dr e)=true
 ·rw[Na]at i;exact aPv w a b d c k f g j e h i.1 i.2
 ·exact aQh w a b d c k f g j e h (by simpa using i)
