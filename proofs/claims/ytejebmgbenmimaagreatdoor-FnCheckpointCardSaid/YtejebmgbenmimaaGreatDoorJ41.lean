import Derived.Test.YtejebmgbenmimaaGreatDoorJ39
import Derived.Test.YtejebmgbenmimaaGreatDoorJ33
set_option maxRecDepth 100000
set_option maxHeartbeats 8000000
set_option linter.defProp false
namespace Go.Proofs.YtejebmgbenmimaaGreatDoor
open Go.RowKit Tryz
def aIy:(prog.info? 132).map (λi=>(i.zero,i.size,i.bytes))=some (some (.agg #[.slice none 0 0,dB 0]),2,32):=by kernel_rfl
def ip(w a:World)(B P N:Nat)(e:Ending):Prop:=∃q:QV,e=.returned q.val/\LC.part a w.1.size a.1.size q/\bF a B P N/\uD B w a
def zZ{k b:Int}{t m:vB}{d:List XV}{a:nC}{c:Nat}(f:1<=k/\k<=6)(j:t.size<=16)(g:m.size<=16)(i : -100<=b/\b<=100)(l:d.length<=5)(e:aHq k b t m d:=by refine⟨?_,?_,?_,?_⟩<;>intro h<;>first|rfl|exact absurd h (by decide)):QV.good ⟨k,t,m,b,d,a,c⟩:=⟨f,j,g,i,l,e⟩
structure QB(w W:World)(B P N:Nat):Prop where
 C:bF W B P N
 U:uD B w W
 Y:rB W w.1.size #[dB 0,.string ⟨#[]⟩,.string ⟨#[]⟩,dB 0,.slice none 0 0] 47
 p:P≤w.1.size
section
variable {w W W' wr:World} {B P N M X k:Nat}
theorem QB.lt(h:QB w W B P N):w.1.size<W.1.size/\B<w.1.size:=⟨eB h.Y,by have:=h.C.up;have:=h.p;omega⟩
theorem QB.call(h:QB w W B P N)(b:bF W' B P M)(a:uD B W W'):QB w W' B P M:=⟨b,h.U.trans a,(a.block _ h.lt.1 (by have:=h.lt;omega)).trans h.Y,h.p⟩
theorem QB.below(h:QB w W B P N)(a:Below (w.1.size+1) W W'):QB w W' B P N:=⟨h.C.below (a.mono (by have:=h.p;omega)),h.U.below_to (a.mono (by omega)),(a.block _ (by omega)).trans h.Y,h.p⟩
theorem QB.z(h:QB w W B P N)(a:zB W W'):QB w W' B P N:=h.below (a.mono h.lt.1)
theorem QB.mono(h:QB w W B P N)(a:N<=M):QB w W B P M:=⟨h.C.mono a,h.U,h.Y,h.p⟩
theorem QB.cells(h:QB w W B P N):(W.cell? (iB w.1.size 0)=some (dB 0)/\W.cell? (iB w.1.size 1)=some (.string ⟨#[]⟩)/\W.cell? (iB w.1.size 2)=some (.string ⟨#[]⟩)/\W.cell? (iB w.1.size 3)=some (dB 0)/\W.cell? (iB w.1.size 4)=some (.slice none 0 0))/\
 W.frozen? (iB w.1.size 0)=false/\W.frozen? (iB w.1.size 1)=false/\W.frozen? (iB w.1.size 2)=false/\W.frozen? (iB w.1.size 3)=false/\W.frozen? (iB w.1.size 4)=false:=
 ⟨h.Y.c5,h.Y.free 0,h.Y.free 1,h.Y.free 2,h.Y.free 3,h.Y.free 4⟩
theorem QB.done(h:QB w W B P N)(l:N<=M){a b c d f:Value}(q:QV)(n:q.val=.agg #[a,b,c,d,f])(m:∀W',jB (·=w.1.size) W W'->LC.part W' w.1.size W'.1.size q):
 ip w (((((W.setCell (iB w.1.size 0) a).setCell (iB w.1.size 1) b).setCell (iB w.1.size 2) c).setCell (iB w.1.size 3) d).setCell (iB w.1.size 4) f) B P M (.returned (.agg #[a,b,c,d,f])):=by
 have j:=((((jB.refl (·=w.1.size) W).setCell (Ca rfl) 0 a).setCell (Ca rfl) 1 b).setCell (Ca rfl) 2 c).setCell (Ca rfl) 3 d |>.setCell (Ca rfl) 4 f
 have g:=j.below (Vg h.lt.1) λi o e=>by omega
 exact⟨q,by rw[n],m _ j,(h.C.below (g.mono h.p)).mono l,h.U.below_to g⟩
theorem QB.done0(h:QB w W B P N)(e:N<=M){a b c d:Value}(q:QV)(g:q.val=.agg #[a,b,c,d,.slice none 0 0])(i:q.ys=[])(f:q.good):
 ip w (((((W.setCell (iB w.1.size 0) a).setCell (iB w.1.size 1) b).setCell (iB w.1.size 2) c).setCell (iB w.1.size 3) d).setCell (iB w.1.size 4) (.slice none 0 0)) B P M (.returned (.agg #[a,b,c,d,.slice none 0 0])):=h.done e q g λ_ _=>⟨Ca i,f⟩
theorem aHn{C:World->Prop}{w:World}{cs:Array Value}{t:TypeId}(k:∀W,zB w W->rB W w.1.size cs t->C W):C (w.alloc (.cells cs t)):=k _ aC (rB.new _ _ _)
theorem tcl(w:World)(X i:Nat)(u:Value):jB (·=X) w (w.setCell (iB X i) u):=(jB.refl (·=X) w).setCell (Ca rfl) i u
theorem QB.put(h:QB w W B P N)(b:w.1.size<X)(a:jB (·=X) W W'):QB w W' B P N:=h.below (a.below h.lt.1 λi c e=>by omega)
theorem QB.blk(h:QB w W B P N)(b:uD B W W')(c:w.1.size<X){cs:Array Value}{t:TypeId}(a:rB W X cs t):rB W' X cs t:=(b.block _ (eB a) (by have:=h.lt;omega)).trans a
theorem fO.app{α:Type}{K:xJ α}{d:World}{b a j:Nat}{T:TypeId}{v:Value}{f:List α}{y:α}(h:fO K wr b T v k f)(o:uD B wr W)(C:B<b)(u:b<=wr.1.size)(x:K.part W wr.1.size W.1.size y)
(t:d.ownsRow b T K.m (.slice (cC a) (k+1) j) (k+1) (K.flat f++K.cells y))(c:jB (λi=>b<=i/\v.ownBlock=some i) W d)(s:v.ownBlock=some a\/W.1.size<=a):
 fO K d b T (.slice (cC a) (k+1) j) (k+1) (f++[y]):=by
 have A:=o.size;have p:=λq z=>h.lt q z;exact fO.snoc t h u c.size A (λg l n r=>(c.block g (by omega) λe=>r e.2).trans (o.block g l (by omega))) (λg l n=>c.block g n λe=>by have:=p g e.2;omega) x (s.imp_left λe=>⟨e,(p _ e).2⟩)
end
def bg(B P N:Nat)(w:World)(h:bF w B P N)(hN:N<=50000):
 Calls prog 16 #[.pointer (some ⟨B,0,none⟩)] w λe w'=>ip w w' B P (N+1200) e:=by
 have H:fB (QB w (w.alloc (.cells #[.int .i64 0,.string ⟨#[]⟩,.string ⟨#[]⟩,.int .i64 0,.slice none 0 0] 47)) B P N):=⟨h.z aC,uD.of aC,rB.new _ _ _,h.up.2⟩
 clear h;go_enter func16,ntmps16;go_wp2_with fail;refine(nD B P N 12 _ H.o.C (by omega) (by omega) (by omega)).mono ?_;rintro e w1 ⟨x,hsw,rfl,j,f⟩;replace H:=gB (H.o.call j f);clear j f;have K:x=0\/x=2\/x=4\/(x=1\/x=3)\/5<=x:=by omega
 obtain rfl|rfl|rfl|h13|h5:=K
 .go_wp2_with fail;refine(nD B P (N+1) 3 w1 H.o.C (by omega) (by omega) (by omega)).mono ?_;rintro e w2 ⟨v,hv,rfl,j,f⟩;replace H:=gB (H.o.call j f);clear j f;have p2:(v:Int)<3:=by omega
  obtain⟨⟨p,r,s,t,u⟩,s0,s1,s2,s3,s4⟩:=H.o.cells;go_wp2;exact bodyPost_ret (v:=.agg #[.int .i64 2,.string ⟨#[]⟩,.string ⟨#[]⟩,.int .i64 (1+v),.slice none 0 0]) (by simp[results,results16,go_sem,p,r,s,t,u]) rfl (H.o.done0 (by omega) ⟨2,⟨#[]⟩,⟨#[]⟩,1+v,[],none,0⟩ rfl rfl (zZ (by decide) (by decide) (by decide) (by omega) (by simp)))
 .obtain ⟨⟨p,r,s,t,u⟩,s0,s1,s2,s3,s4⟩:=H.o.cells;go_wp2;exact bodyPost_ret (v:=.agg #[.int .i64 4,.string ⟨#[]⟩,.string ⟨#[]⟩,.int .i64 0,.slice none 0 0]) (by simp[results,results16,go_sem,p,r,s,t,u]) rfl (H.o.done0 (by omega) ⟨4,⟨#[]⟩,⟨#[]⟩,0,[],none,0⟩ rfl rfl (zZ (by decide) (by decide) (by decide) (by omega) (by simp)))
 .go_wp2_with fail;refine(oS B P (N+1) w1 H.o.C (by omega)).mono ?_;rintro e w2 ⟨A,n,rfl,j,f⟩;replace H:=gB (H.o.call j f);clear j f;obtain⟨⟨p,r,s,t,u⟩,s0,s1,s2,s3,s4⟩:=H.o.cells;go_wp2;exact bodyPost_ret (v:=.agg #[.int .i64 6,.string A,.string ⟨#[]⟩,.int .i64 0,.slice none 0 0]) (by simp[results,results16,go_sem,p,r,s,t,u]) rfl (H.o.done0 (by omega) ⟨6,A,⟨#[]⟩,0,[],none,0⟩ rfl rfl (zZ (by decide) n (by decide) (by omega) (by simp)))
 .rcases h13 with rfl|rfl
  all_goals
   go_wp2_with fail;refine(oS B P (N+1) w1 H.o.C (by omega)).mono ?_;rintro e w2 ⟨A,n,rfl,j,f⟩;replace H:=gB (H.o.call j f);clear j f;go_wp2_with fail;refine(NJ B P (N+2) _ (H.o.z aC).C (by omega)).mono ?_;rintro e w3 ⟨mt,g0,rfl,j,f⟩;have D:=H.o.lt.1;have J:=gB ((H.o.z aC).blk f D (rB.new _ _ _));replace H:=gB ((H.o.z aC).call j f);clear j f;generalize w2.1.size=X at *;have n1:¬(w.1.size=X):=by omega
   have n2:¬(X=w.1.size):=by omega
   have R:=J.o.cell 2;have a:=J.o.free 2
  .go_wp2_with fail;refine(nD B P (N+3) 8 _ (H.o.put D (tcl _ _ _ _)).C (by omega) (by omega) (by omega)).mono ?_;rintro e w5 ⟨v,hv,rfl,j,f⟩;have X5:=gB ((H.o.put D (tcl _ _ _ _)).blk f D (J.o.set 2 (.string mt)));replace H:=gB ((H.o.put D (tcl _ _ _ _)).call j f);clear j f J R a;have p4:(v:Int)<8:=by omega
   have d:=X5.o.free 3;obtain⟨c0,c1,R,c3,S⟩:=rB.c5 (by simpa using X5.o);obtain⟨⟨p,r,s,t,u⟩,s0,s1,s2,s3,s4⟩:=H.o.cells;go_wp2;exact bodyPost_ret (v:=.agg #[.int .i64 3,.string A,.string mt,.int .i64 (v-1),.slice none 0 0]) (by simp[results,results16,go_sem,p,r,s,t,u]) rfl ((H.o.put D (tcl _ _ _ _)).done0 (by omega) ⟨3,A,mt,v-1,[],none,0⟩ rfl rfl (zZ (by decide) n g0 (by omega) (by simp)))
  clear R;obtain⟨c0,c1,R,c3,S⟩:=J.o.c5;obtain⟨⟨p,r,s,t,u⟩,s0,s1,s2,s3,s4⟩:=H.o.cells;go_wp2;exact bodyPost_ret (v:=.agg #[.int .i64 5,.string A,.string mt,.int .i64 0,.slice none 0 0]) (by simp[results,results16,go_sem,p,r,s,t,u]) rfl ((H.o.put D (tcl _ _ _ _)).done0 (by omega) ⟨5,A,mt,0,[],none,0⟩ rfl rfl (zZ (by decide) n g0 (by omega) (by simp)))
 have n0:¬((x:Int)=0):=by omega
 have n1:¬((x:Int)=1):=by omega
 have n2:¬((x:Int)=2):=by omega
 have n3:¬((x:Int)=3):=by omega
 have n4:¬((x:Int)=4):=by omega
 go_wp2_with fail;refine(oS B P (N+1) w1 H.o.C (by omega)).mono ?_;rintro e w2 ⟨A,n,rfl,j,f⟩;replace H:=gB (H.o.call j f);clear j f n0 n1 n2 n3 n4 h5 hsw;go_wp2_with fail;refine(nD B P (N+2) 5 _ (H.o.z aC).C (by omega) (by omega) (by omega)).mono ?_;rintro e w3 ⟨E,hnn,rfl,j,f⟩;have D:=H.o.lt.1;have J:=gB ((H.o.z aC).blk f D (rB.new _ _ _));replace H:=gB ((H.o.z aC).call j f);clear j f;generalize w2.1.size=X at *;have p3:(E:Int)<5:=by omega
 go_wp2;go_loopw [7,8] (λi _ wr=>∃(k:Nat)(v:Value)(ys:List XV),k<=E+1/\i=.int .i64 (k:Nat)/\fB (rB wr X #[.int .i64 1,.string A,.string ⟨#[]⟩,.int .i64 0,v] 47)/\fB (fO aKh wr (X+1) 132 v k ys)/\fB (QB w wr B P (N+3+210*k))) (λi _ _=>E+1-(intOf i).toNat)
 case atStart=>exact⟨0,.slice none 0 0,[],Oa _,rfl,J.o,fO.nil _ _ _ _,H.o⟩
 case round=>
  clear J H;obtain⟨k,v,ys,hk,rfl,HX,Q,H⟩:=hrel;have V:=eB HX.o;have hBl:=H.o.lt.2;by_cases hlk:k<E+1
  .have e0:(k:Int)<1+(E:Int):=by omega
   go_wp2_with fail;refine(NI B P (N+3+210*k) wr H.o.C (by omega)).mono ?_;rintro e w4 ⟨T,S,m,rfl,b0,d0,G,l,j,f⟩;replace H:=gB (H.o.call j f);have L:=gB (Vc l G);have U:=gB f;clear l G j f;have a0:=L.o.1.lt T rfl;have hs4:=U.o.size;go_upto_region 23 with fail;refine aHn (C:=λW=>Code.wp prog _ _ _ W) ?_;intro w5 F ZB;have O:T≠w4.1.size/\T≠B:=by omega
   replace H:=gB (H.o.z F);replace L:=gB (Vc (lC L.o.1 F) L.o.2);replace U:=gB (U.o.trans (uD.of F));have Z:=gB ZB;clear ZB F a0;generalize w4.1.size=Y at *;clear w4;go_wp2_with fail;refine(nD B P (N+3+210*k+100) 8 _ H.o.C (by omega) (by omega) (by omega)).mono ?_;rintro e w6 ⟨v5,-,rfl,j,f⟩;replace Z:=gB (H.o.blk f (by omega) Z.o);replace L:=gB (Vc (sO L.o.1 f (by omega)) L.o.2);replace U:=gB (U.o.trans f);replace H:=gB (H.o.call j f);obtain⟨b7,h7⟩:∃b,(((v5:Nat):Int)==7)=b:=⟨_,rfl⟩
   clear j f;go_upto_if 63 with fail;go_cut [] (λI=>∃(g c:Nat)(m:List hC),og m c/\(g≠Y/\g≠B)/\fB (QB w I B P (N+3+210*k+201))/\fB (uD B wr I)/\fB (rB I Y #[.slice (some ⟨g,0,none⟩) m.length c,.int .i64 0] 132)/\fB (qE I wr.1.size (some ⟨g,0,none⟩) m))
   case first=>as_aux_lemma=>
    cases b7 with
    |true=>
     have z0:=Z.o.cell 0;go_wp2_with fail;refine(xk B P (N+3+210*k+101) w6 wr.1.size T S m H.o.C (by omega) L.o.1 b0 d0 L.o.2).mono ?_;rintro e w7 ⟨g,c,m,rfl,hl,G,l,j,f⟩;have Z7:=gB (H.o.blk f (by omega) Z.o);have U7:=gB (U.o.trans f);have H7:=gB (H.o.call j f);have a0:=l.lt g rfl;have hzl:=eB Z.o;have hsz:=U.o.size;have R7:=gB l;clear j f H U L Z z0 l;have z0:=Z7.o.cell 0;have y0:=Z7.o.free 0;go_wp2;go_meet;have o:=tcl w7 Y 0 (.slice (some ⟨g,0,none⟩) m.length c);exact⟨g,c,m,⟨hl,(mK R7.o).1,G⟩,by omega,H7.o.put (by omega) o,U7.o.below_to (o.below U7.o.size λi hi e=>by omega),gB (by simpa using Z7.o.set 0 (.slice (some ⟨g,0,none⟩) m.length c)),zJ (mV (o.row R7.o λq hq e=>by have:=R7.o.lt q hq;omega) (by omega))⟩
    |false=>
     go_wp2;go_meet;exact⟨T,S,m,⟨by omega,(mK L.o.1).1,L.o.2⟩,O,H.o.mono (by omega),U.o,Z.o,zJ L.o.1⟩
   clear H L U Z b0 d0 O h7;obtain⟨g,c,m,hls,O,H,U,Z,L⟩:=hcut;rename World=>w6;go_wp2_with fail;refine(nD B P (N+3+210*k+201) 5 _ H.o.C (by omega) (by omega) (by omega)).mono ?_;rintro e w7 ⟨v7,-,rfl,j,f⟩;replace Z:=gB (H.o.blk f (by omega) Z.o);replace L:=gB (L.o.butS f O.2);replace U:=gB (U.o.trans f);replace H:=gB (H.o.call j f);obtain⟨b4,h4⟩:∃b,(((v7:Nat):Int)==4)=b:=⟨_,rfl⟩
   clear j f;go_upto_if 71 with fail;go_cut [] (λI=>∃z:Int,ir z/\fB (QB w I B P (N+3+210*k+203))/\fB (uD B wr I)/\fB (rB I Y #[.slice (some ⟨g,0,none⟩) m.length c,.int .i64 z] 132)/\fB (qE I wr.1.size (some ⟨g,0,none⟩) m))
   case first=>as_aux_lemma=>
    cases b4 with
    |true=>
     go_wp2_with fail;refine(WU B P (N+3+210*k+202) w7 H.o.C (by omega)).mono ?_;rintro e w8 ⟨z,hz,rfl,j,f⟩;have Z8:=gB (H.o.blk f (by omega) Z.o);have L8:=gB (L.o.butS f O.2);have U8:=gB (U.o.trans f);have H8:=gB (H.o.call j f);clear j f H U L Z;have z1:=Z8.o.cell 1;have y1:=Z8.o.free 1;go_wp2;go_meet;have o:=tcl w8 Y 1 (.int .i64 z);exact⟨z,hz,H8.o.put (by omega) o,U8.o.below_to (o.below U8.o.size λi hi e=>by omega),gB (by simpa using Z8.o.set 1 (.int .i64 z)),L8.o.butS ((uD.refl Y w8).setCell 1 _) O.1⟩
    |false=>
     go_wp2;go_meet;exact⟨0,⟨by decide,by decide⟩,H.o.mono (by omega),U.o,Z.o,L.o⟩
   clear H L U Z h4;obtain⟨z,hz,H,U,Z,L⟩:=hcut;rename World=>w7;have X7:=gB (show rB w7 X _ 47 from(U.o.block _ V (by omega)).trans HX.o);have hO:=(Q.o.but U.o (by omega)).1;have z0:=Z.o.cell 0;have z1:=Z.o.cell 1;have x4:=X7.o.cell 4;have hs:=U.o.size;go_wp2_with(at_builtin;refine gI rfl _ _ rfl underlying45 aIy rfl (by omega) (by omega) (v:=v) rfl hO rfl rfl (cs:=#[.slice (some ⟨g,0,none⟩) m.length c,.int .i64 z]) rfl (by simp[Value.oneCell']) (by omega) (by omega) ?_;intro g9 c9 w9 O9 T9 A9;have X9:=gB (T9.o.blk X7.o (λe=>by have:=e.1;omega));have x4:=X9.o.cell 4;have xf:=X9.o.free 4);have o:=tcl w9 X 4 (.slice (some ⟨g9,0,none⟩) (k+1) c9);exact⟨⟨k+1,_,ys++[⟨⟨m,z⟩,some ⟨g,0,none⟩,c⟩],by omega,by go_num,gB (by simpa using X9.o.set 4 (.slice (some ⟨g9,0,none⟩) (k+1) c9)),gB ((fO.app Q.o U.o (by omega) V (y:=⟨⟨m,z⟩,some ⟨g,0,none⟩,c⟩) ⟨L.o.inR,hls,hz⟩ O9.o T9.o A9.o).turn o λg e=>by omega),gB (((H.o.below (T9.o.below H.o.lt.1 λi hi e=>by omega)).put D o).mono (by omega))⟩,by simp[intOf];omega⟩
  obtain rfl:k=E+1:=by omega
  have e0:¬(((E+1:Nat):Int)<1+(E:Int)):=by omega
  obtain⟨ra,rc,rfl⟩:=Q.o.row;obtain⟨c0,c1,R,c3,S⟩:=HX.o.c5;obtain⟨⟨p,r,s,t,u⟩,s0,s1,s2,s3,s4⟩:=H.o.cells;have n1:¬(w.1.size=X):=by omega
  have n2:¬(X=w.1.size):=by omega
  go_wp2;have hyl:ys.length=E+1:=Q.o.2.1;exact bodyPost_ret (v:=.agg #[.int .i64 1,.string A,.string ⟨#[]⟩,.int .i64 0,.slice ra (E+1) rc]) (by simp[results,results16,go_sem,p,r,s,t,u]) rfl (H.o.done (by omega) ⟨1,A,⟨#[]⟩,0,ys,ra,rc⟩ (by unfold QV.val;simp only[hyl]) λW' o=>⟨((Q.o.turn o λg e=>by omega).o).wide (by omega) (Ia _),zZ (by decide) n (by decide) (by decide) (by omega)⟩)
def aIx:(prog.info? 47).map (λi=>(i.zero,i.size,i.bytes))=some (some (.agg #[dB 0,.string ⟨#[]⟩,.string ⟨#[]⟩,dB 0,.slice none 0 0]),5,72):=by kernel_rfl
def aIw:(prog.info? 3).map (λi=>(i.zero,i.size,i.bytes))=some (some (dB 0),1,8):=by kernel_rfl
def fO.made{α:Type}(K:xJ α)(w:World)(b:Nat)(e:TypeId)(a:b<=w.1.size):fO K (w.alloc (.cells #[] e)) b e (.slice (cC w.1.size) 0 0) 0 []:=
 ⟨World.ownsRow_made w #[] 0 a (by simp[maxLen]) (by simp),rfl,λy d=>by cases d⟩
def aMd(w a:World)(e:Ending):Prop:=∃(c:kC)(b:List QV)(d:nC)(h:Nat)(g:Value)(f:List Nat),e=.returned (.tuple #[oE c,.slice d b.length h,g])/\ME c/\b.length<=17/\RS LC a w.1.size a.1.size d b/\a.ownsRow w.1.size 3 1 g 6 (f.map λk=>dB (k:Nat))/\(∀k∈f,k<90)/\zB w a
structure oj(w W:World)(X N:Nat)(c:kC):Prop where
 C:bF W (w.1.size+1) (w.1.size+2) N
 Y:rB W w.1.size #[dB 0,dB 0,dB 0,dB 0,dB 0,dB 0] 24
 K:rB W X #[dB c.w,dB c.tl,dB c.ml,dB c.sh,dB c.ha,dB c.sg] 24
 U:zB w W
 l:w.1.size+2≤X
section
variable {w W W':World} {X N M:Nat} {c:kC}
theorem oj.lt(h:oj w W X N c):X<W.1.size/\w.1.size+2<=X:=⟨eB h.K,h.l⟩
theorem oj.call(h:oj w W X N c)(b:bF W' (w.1.size+1) (w.1.size+2) M)(a:uD (w.1.size+1) W W'):oj w W' X M c:=by
 have:=h.lt;exact⟨b,(a.block _ (by omega) (by omega)).trans h.Y,(a.block _ (by omega) (by omega)).trans h.K,h.U.trans (a.below (by omega) (by omega)),h.l⟩
theorem oj.below(h:oj w W X N c)(a:Below (X+1) W W'):oj w W' X N c:=by
 have:=h.lt;exact⟨h.C.below (a.mono (by omega)),(a.block _ (by omega)).trans h.Y,(a.block _ (by omega)).trans h.K,h.U.trans (a.mono (by omega)),h.l⟩
theorem oj.mono(h:oj w W X N c)(a:N<=M):oj w W X M c:=⟨h.C.mono a,h.Y,h.K,h.U,h.l⟩
end
theorem WV(a:Option Addr)(n r:Nat)(w:World)(hn:n<=1048576)(hU:aY w w.1.size w.1.size a n):
 Calls prog 4 #[.slice a n r] w λe w'=>aMd w w' e:=by
 have HU:=gB hU;clear hU;go_enter func4,ntmps4;go_wp2_with fail;have HC:fB (bF ((w.alloc (.cells #[.int .i64 0,.int .i64 0,.int .i64 0,.int .i64 0,.int .i64 0,.int .i64 0] 24)).alloc (.cells #[.slice a n r,.int .i64 0,.int .i64 0] 63)) (w.1.size+1) (w.1.size+2) 0):=by
  refine⟨a,n,r,0,0,by simpa using rB.new (w.alloc (.cells #[.int .i64 0,.int .i64 0,.int .i64 0,.int .i64 0,.int .i64 0,.int .i64 0] 24)) #[.slice a n r,.int .i64 0,.int .i64 0] 63,Ia _,⟨by omega,by omega⟩,hn,?_,by omega,by simp⟩;obtain h|⟨b,o,e,hne,j,h⟩:=HU.o
  .exact Ca h
  .exact La ⟨b,o,e,by omega,by omega,λi I=>by
    obtain⟨v,hv,m⟩:=h i I;exact⟨v,hv,(World.cell?_of_block ((xB (uF w _) aC).block b j)).trans m⟩⟩
 refine(NH (w.1.size+1) (w.1.size+2) 0 _ HC.o (by omega)).mono ?_;rintro e t ⟨c,G,rfl,F,s⟩;have hs1:w.1.size+2<=t.1.size:=by have:=s.size;simp at this;omega
 have S:=gB G;have p:=gB (λW(hW:Below t.1.size t W)(hX:rB W t.1.size #[.int .i64 c.w,.int .i64 c.tl,.int .i64 c.ml,.int .i64 c.sh,.int .i64 c.ha,.int .i64 c.sg] 24)=>(show oj w W t.1.size 6 c from⟨(F.mono (by omega)).z hW,(rB.z (g:=w.1.size) (show rB t w.1.size _ 24 from(s.block _ (by simp;omega) (by omega)).trans ((rB.new _ _ _).alloc _)) hW),hX,xB ((xB (uF w _) aC).trans (s.below (by omega) (by simp;omega))) hW,hs1⟩));clear F s HC HU G;unfold oE;go_upto_region 3 with fail;refine aHn (C:=λW=>Code.wp prog _ _ _ W) ?_;intro B E XB;replace p:=gB (p.o B E XB);generalize t.1.size=X at *;clear E XB t;go_wp2_with fail;have R0:=gB (fO.made LC B (X+1) 47 p.o.lt.1);replace p:=gB (p.o.below ((uF B (.cells #[] 47)).mono p.o.lt.1));refine(nD (w.1.size+1) (w.1.size+2) 6 14 _ p.o.C (by omega) (by omega) (by omega)).mono ?_;rintro e w2 ⟨f,hnn,rfl,m,d⟩;have R2:=gB (R0.o.but d (by omega));have H2:=gB (p.o.call m d);have p2:(f:Int)<14:=by omega
 clear m d R0 p;generalize B.1.size=g0 at *;clear B;go_wp2;go_loopw [7,9] (λl i wr=>∃(k:Nat)(P:List QV),k<=f+4/\i=.int .i64 (k:Nat)/\fB (fO LC wr (X+1) 47 l k P)/\fB (oj w wr X (7+1200*k) c)) (λ_ i _=>f+4-(intOf i).toNat)
 case atStart=>exact⟨0,[],Oa _,rfl,R2.o,H2.o⟩
 case round=>
  clear R2 H2;obtain⟨k,P,hk,rfl,y,H⟩:=hrel;have j:=H.o.lt;by_cases hlk:k<f+4
  .have L:(k:Int)<4+(f:Int):=by omega
   go_wp2_with fail;refine(bg (w.1.size+1) (w.1.size+2) (7+1200*k) wr H.o.C (by omega)).mono ?_;rintro e w3 ⟨q,rfl,hp,m,d⟩;have HP:=gB hp;have U:=gB d;have H3:=gB (H.o.call m d);have hO:=(y.o.but d (by omega)).1;have hs3:=d.size;clear hp m d H;unfold QV.val;go_wp2_with(at_builtin;refine gI rfl _ _ rfl underlying25 aIx rfl (by omega) (by omega) (v:=u7) rfl hO rfl rfl (cs:=#[.int .i64 q.K,.string q.T,.string q.R,.int .i64 q.U,.slice q.a q.ys.length q.c]) rfl (by simp[Value.oneCell']) (by omega) (by omega) ?_;intro g9 c9 w9 V A A9);exact⟨⟨k+1,P++[q],by omega,by go_num,gB (fO.app y.o U.o (by omega) j.1 HP.o V.o A.o A9.o),gB ((H3.o.below (A.o.below H3.o.lt.1 λi I e=>by omega)).mono (by omega))⟩,by simp[intOf];omega⟩
  .obtain rfl:k=f+4:=by omega
   have L:¬(((f+4:Nat):Int)<4+(f:Int)):=by omega
   obtain⟨ra,rc,rfl⟩:=y.o.row;have hql:P.length=f+4:=y.o.2.1;have T:=gB y.o.o;obtain⟨Q,hwo⟩:∃Q:World,Q=wr:=⟨_,rfl⟩
   subst hwo;clear y;go_wp2;go_loopw [10,11] (λl i wr=>∃(k:Nat)(O:List Nat),k<=6/\i=.int .i64 (k:Nat)/\fB (wr.ownsRow Q.1.size 3 1 l k (O.map λk=>.int .i64 (k:Nat)))/\fB (oj w wr X (7+1200*(f+4)+k) c)/\fB (uD (w.1.size+1) Q wr)/\fB (∀x∈O,x<90)) (λ_ i _=>6-(intOf i).toNat)
   case atStart=>exact⟨0,[],Oa _,rfl,World.ownsRow_made Q #[] 0 (Ia _) (by simp[maxLen]) (by simp),H.o.below (aC.mono j.1),uD.of aC,λx u=>by cases u⟩
   case round=>
    clear H;obtain⟨k,O,hk,rfl,R,H,U,z⟩:=hrel;have hsq:=U.o.size;have j:=H.o.lt;by_cases hl6:k<6
    .have J:(k:Int)<6:=by omega
     go_wp2_with fail;refine(nD (w.1.size+1) (w.1.size+2) (7+1200*(f+4)+k) 90 wr H.o.C (by omega) (by omega) (by omega)).mono ?_;rintro e w5 ⟨v5,hv5,rfl,m,d⟩;have hs5:=d.size;have hO:=sO R.o d (by omega);have H5:=gB (H.o.call m d);have U5:=gB (U.o.trans d);clear m d H U R;go_wp2_with(at_builtin;refine gI rfl _ _ rfl underlying26 aIw rfl (by omega) (by omega) (v:=u10) rfl hO rfl rfl (cs:=#[.int .i64 (v5:Nat)]) rfl (by simp[Value.oneCell']) (by omega) (by omega) ?_;intro g9 c9 w9 V A _);exact⟨⟨k+1,O++[v5],by omega,by go_num,by rw[Ld];exact V,gB ((H5.o.below (A.o.below H5.o.lt.1 λi I e=>by omega)).mono (by omega)),U5.o.below_to (A.o.below (by omega) λi I e=>by omega),λx u=>by
      rcases Ee.1 u with u|u
      .exact z.o x u
      .rw[Uf]at u;omega⟩,by simp[intOf];omega⟩
    .obtain rfl:k=6:=by omega
     have J:¬(((6:Nat):Int)<6):=by omega
     obtain⟨c0,c1,c2,c3,c4,c5⟩:=H.o.K.c6;obtain⟨r0,r1,r2,r3,r4,r5⟩:=H.o.Y.c6;have s0:=H.o.Y.free 0;have s1:=H.o.Y.free 1;have s2:=H.o.Y.free 2;have s3:=H.o.Y.free 3;have s4:=H.o.Y.free 4;have s5:=H.o.Y.free 5;have m1:¬(w.1.size=X):=by omega
     have m2:¬(X=w.1.size):=by omega
     go_wp2;refine bodyPost_ret (v:=.tuple #[.agg #[.int .i64 c.w,.int .i64 c.tl,.int .i64 c.ml,.int .i64 c.sh,.int .i64 c.ha,.int .i64 c.sg],.slice ra (f+4) rc,u10]) (by simp[results,results4,go_sem,r0,r1,r2,r3,r4,r5]) rfl ?_;have D:=((((((jB.refl (·=w.1.size) wr).setCell (Ca rfl) 0 (.int .i64 c.w)).setCell (Ca rfl) 1 (.int .i64 c.tl)).setCell (Ca rfl) 2 (.int .i64 c.ml)).setCell (Ca rfl) 3 (.int .i64 c.sh)).setCell (Ca rfl) 4 (.int .i64 c.ha)).setCell (Ca rfl) 5 (.int .i64 c.sg);exact⟨c,P,ra,rc,u10,O,by rw[hql];rfl,S.o,by omega,((T.o.keep hsq (λg h1 h2 Z=>U.o.block g Z (by omega))).keep D.size (λg h1 h2 Z=>D.block g Z (by omega))).wide (by (try simp only[World.size_setCell]);omega) (by have:=D.size;(try simp only[World.size_setCell]at*);omega),mV (D.row R.o (λg hg e=>by have:=(R.o.lt g hg).1;omega)) (by omega),z.o,H.o.U.trans (D.below (by omega) (λi I e=>by omega))⟩
def aCd{last:Int}{text:vB}(f:0<=last)(g:last<999999):∀b∈sY last text,GZ b=true:=by
 have c:gG vP=true:=by decide
 have d:gG FZ=true:=by decide
 have e:gG (tF (last+1))=true:=oP _ (by omega) (by omega);intro b a;simp only[sY,Lb,Ed,Bf]at a;rcases a with a|a|a|a|a<;>(subst a;simp[GZ,dC,c,d,e])
def aGa{n:Int}(b:1<=n)(c:n<=999999):GZ (UJ n)=true:=by
 have a:gG (tF n)=true:=oP _ (by omega) (by omega);simp[GZ,UJ,dC,a]
def WA{C:World->Prop}{w:World}{cs:Array Value}{t:TypeId}(k:∀W,zB w W->rB W w.1.size cs t->C W):C (w.alloc (.cells cs t)):=
 k _ aC (rB.new w _ _)
def bj{G w:World}{B P D:Nat}{K p:eE}{L:aI}(h:xO G w B P D K L)(s:bL K (nN K.fs)=(p,0)):
 Calls prog 80 #[.pointer (cC P)] w λe F=>e=.returned .nilIface/\xO G F B P D p L/\oJ w F:=by
 obtain⟨b,c,d,f,g,i,k,_⟩:=nH h.valid;obtain⟨v,z⟩:=h.drive;obtain⟨a,M,rfl,m⟩:=z.files;have A:=gB (uN a M K.fs vP w m (kS b) (by omega));have n:=uh (t:=vP) (kS b);have o:fB (if tH K.fs vP (gC vP K.fs)=true then fF K ex=(p,0) else p=K):=by
  unfold nN at s;show ite _ _ _;split at s
  .rw[Ma (n.1 ‹_›)];obtain⟨q,O,Q⟩:=YP (l:=[ex]) (j:=0) (by decide) s;cases Q
   exact O
  rw[Ja (λh=>‹¬_› (n.2 h))];cases s
  rfl
 have N:=z.cell4;obtain⟨I,-,-,-⟩:=h.wr.cells;have E:=gB h;clear z m b c d f g i k h n s;go_enter func80,ntmps80;go_wp2_with fail;apply oC A.o;intro R y;have x:=gB (E.o.z y);have q:=gB (oJ.of y);obtain⟨J,-,-,-⟩:=x.o.wr.cells;clear y A I N E;cases hq:tH K.fs vP (gC vP K.fs) with
 |false=>
  rw[hq]at o;obtain rfl:p=K:=o.o;clear hq o;go_wp2;go_ret;exact⟨rfl,x.o,q.o⟩
 |true=>
  rw[hq]at o;have C:=gB (PV ex x.o (by decide) o.o);clear hq o;go_wp2_with fail;apply oC C.o;rintro S ⟨u,r⟩;have H:=gB u;replace q:=gB (q.o.trans r);clear u r J C;go_wp2;go_ret;exact⟨rfl,H.o,q.o⟩
def QR{F w:World}{B P D:Nat}{K Z:eE}{L:aI}(c:vB)(h:xO F w B P D K L)(m:rL L=true)(O:L.last<999999)(A:bL K (rT K L c)=(Z,0)):
 Calls prog 36 #[.pointer (cC P),.string c] w λe o=>e=.returned .nilIface/\xO F o B P D Z ⟨L.last+1,L.last+1,0⟩:=by
 obtain⟨_,_,G,G,G,_⟩:=aZ m;obtain⟨U,G,A⟩:=UY A;obtain⟨K5,I,A⟩:=UY A;have J:=gB (bj h G);have Y:=gB I;have HR:=gB A;have W:IntKind.i64.wrap (L.last+1)=L.last+1:=by rw[IntKind.wrap_i64];omega
 clear h m G I A;go_enter func36,ntmps36;go_wp2_with fail;refine J.o.mono ?_;rintro e w1 ⟨rfl,m,-⟩;have p:=gB m;clear m J;obtain⟨r,c1,c2,c3⟩:=p.o.wr.cells;have H:=gB (aCd (text:=c) (show 0<=L.last by omega) O);go_wp2_with fail;apply oC (lL (L.last+1) _ p.o.tab);intro w2 M;replace p:=gB (p.o.z M);clear M r c1 c2 c3;go_upto_region 6 with fail;refine WA (C:=λW=>Code.wp prog _ _ _ W) ?_;intro G N m;replace p:=gB (p.o.z N);have H3:=gB (show rB G w2.1.size (vN (sY L.last c)).toArray _ from m);clear m N;generalize w2.1.size=G at *;generalize l:sY L.last c=d at *;have m:d.length=5:=by rw[<-l];rfl
 clear l;go_wp2;go_loopw [35] (λi wr=>∃(j:Nat)(X:eE),j<=5/\i=dB j/\fB (bL X (d.drop j)=(K5,0))/\fB (xO F wr B P D X L)/\fB (rB wr G (vN d).toArray 140)) (λi _=>5-(RowKit.intOf i).toNat)
 case atStart=>exact⟨0,U,Oa _,rfl,Y,p,H3⟩
 case round=>
  obtain⟨j,X,hj,rfl,a,b,g⟩:=hrel;by_cases R:j<5
  .have t:j<d.length:=by omega
   obtain⟨U,q1,q2,q3,q4⟩:=aLq (aJv g.o) j t;obtain⟨K1,E,T⟩:=YP t a.o;have HN:=gB T;have m:=H.o _ (Gb t);generalize d[j]=n at *;have I:=gB (λW(O:xO F W B P D X L)=>PV n O m E);clear E m T a;go_upto_region 9 with fail;refine WA (C:=λW=>Code.wp prog _ _ _ W) ?_;intro x s f;have m:=gB (b.o.z s);have G:=gB (g.o.z s);have J:=gB f;obtain⟨r,-,-,-⟩:=m.o.wr.cells;have x0:gD x wr.1.size 0 (dB n.K):=f.cell 0;have x1:gD x wr.1.size 1 (.string n.N):=f.cell 1;have x2:gD x wr.1.size 2 (.string n.tq):=f.cell 2;have x3:gD x wr.1.size 3 (.string n.data):=f.cell 3;have x4:gD x wr.1.size 4 (dB n.size):=f.cell 4;have HK:=gB (λW(z:zB x W)=>(⟨(m.o.z z).wr.cells.1,(f.z z).cell 0,(f.z z).cell 1,(f.z z).cell 2,(f.z z).cell 3,(f.z z).cell 4⟩:_/\_/\_/\_/\_/\_));clear U q1 q2 q3 q4 s f;go_wp2_with fail;go_region_held3 (λo=>o.cell? (iB P 0)=some (.pointer (cC D))/\o.cell? (iB wr.1.size 0)=some (dB n.K)/\o.cell? (iB wr.1.size 1)=some (.string n.N)/\o.cell? (iB wr.1.size 2)=some (.string n.tq)/\o.cell? (iB wr.1.size 3)=some (.string n.data)/\o.cell? (iB wr.1.size 4)=some (dB n.size))
    (first|exact⟨W5.o.wr.cells.1,y.o.cell 0,y.o.cell 1,y.o.cell 2,y.o.cell 3,y.o.cell 4⟩|exact HK.o _ jD.drew)
    (first|(go_at_call 111;apply oC (I.o _ (m.o.z jD.drew));rintro U ⟨U,u⟩;have W5:=gB U;have y:=gB (u.blk (J.o.z jD.drew) (by decide) (by decide));have G5:=gB (u.blk (G.o.z jD.drew) (by decide) (by decide))))
   clear r x0 x1 x2 x3 x4 HK I J m G U u y;go_wp2;exact⟨⟨j+1,K1,by omega,by go_num,HN,W5,G5⟩,by simp[RowKit.intOf];omega⟩
  have m:=a.o;rw[Yb (by omega)]at m;cases m
  obtain⟨r,c1,c2,c3⟩:=b.o.wr.cells;clear a g H3 p H Y;go_wp2;obtain⟨G,J⟩:∃G:Nat,(G:Int)=L.last+1-L.first:=⟨(L.last+1-L.first).toNat,by omega⟩
  have Q:(L.last+1-L.first).toNat=G:=by omega
  rw[Q]at HR;have J:(lQ L.first G).length=G:=by simp[lQ]
  have J:=gB (fun(k:Nat)(h:k<(lQ L.first G).length)=>show(lQ L.first G)[k]=UJ (L.first+k) by simp[lQ]);clear Q r c1 c2 c3 hj R;generalize lQ L.first G=h at *
  go_loopw [11] (λi U=>∃(k:Nat)(Y:eE),k<=G/\i=dB (L.first+k)/\fB (bL Y (h.drop k)=(Z,0))/\fB (xO F U B P D Y L)) (λi _=>(L.last+1-RowKit.intOf i).toNat)
  case atStart=>exact⟨0,_,Oa _,by simp,HR,b⟩
  case round=>
   obtain⟨k,Y,U,rfl,a,b⟩:=hrel;by_cases R:k<G
   .have S:L.first+(k:Int)<L.last+1:=by omega
    have v:k<h.length:=by omega
    obtain⟨K1,E,T⟩:=YP v a.o;have HN:=gB T;rw[J.o k v]at E;have I:=gB (λW(O:xO F W B P D Y L)=>PV (UJ (L.first+k)) O (aGa (by omega) (by omega)) E);clear E T a v;have r:=b.o.wr.cells.1;have h:IntKind.i64.wrap (L.first+(k:Int)+1)=L.first+(k:Int)+1:=by rw[IntKind.wrap_i64];omega
    go_wp2_with fail;go_region_held3 (λo=>o.cell? (iB P 0)=some (.pointer (cC D)))
     (first|exact o.o.wr.cells.1|exact h.o.wr.cells.1|exact(b.o.z jD.drew).wr.cells.1)
     (first
     |(go_at_call 110;apply oC (lL (L.first+k) _ (b.o.z jD.drew).tab);intro J O;have h:=gB ((b.o.z jD.drew).z O))
     |(go_at_call 111;refine(I.o _ h.o).mono ?_;rintro e J ⟨rfl,V,-⟩;have o:=gB V))
    clear r I h O V;go_wp2;exact⟨⟨k+1,K1,by omega,by go_num,HN,o⟩,by simp[RowKit.intOf];omega⟩
   obtain rfl:k=G:=by omega
   have S:¬L.first+(k:Int)<L.last+1:=by omega
   have m:=a.o;rw[Yb (by omega)]at m;cases m
   obtain⟨r,c1,c2,c3⟩:=b.o.wr.cells;have q:=b.o.wr.free;have h:=gB (((b.o.set (L':=⟨L.last+1,L.last,L.size⟩) 1 (dB (L.last+1)) (by simp)).set (L':=⟨L.last+1,L.last+1,L.size⟩) 2 (dB (L.last+1)) (by simp)).set (L':=⟨L.last+1,L.last+1,0⟩) 3 (dB 0) (by simp));go_wp2;go_ret;exact⟨rfl,h.o⟩
def TD(ps:List pB):List Value:=ps.flatMap λx=>[.string x.s,dB x.n]
structure TG(w0 w':World)(B R1:Nat)(zs:Array Value)(t:TypeId)(r:vB):Prop where
 Z:rB w' R1 zs t
 N:uD B w0 w'
 T:RV w' B r
section
variable {w0 w' w'':World} {B R1:Nat} {zs:Array Value} {t:TypeId} {r r':vB}
theorem TG.call(h:TG w0 w' B R1 zs t r)(b:RV w'' B r')(a:uD B w' w'')(c:B<R1):TG w0 w'' B R1 zs t r':=⟨h.Z.but a (by omega),h.N.trans a,b⟩
theorem TG.alloc(h:TG w0 w' B R1 zs t r)(o:Obj):TG w0 (w'.alloc o) B R1 zs t r:=⟨h.Z.alloc _,h.N.trans (uD.of aC),rB.alloc h.T _⟩
theorem TG.turn{S:Nat->Prop}(h:TG w0 w' B R1 zs t r)(b:jB S w' w'')(a:∀j,S j->R1<j)(d:B<R1)(c:w0.1.size<=R1):TG w0 w'' B R1 zs t r:=
 ⟨b.blk h.Z (λe=>by have:=a _ e;omega),h.N.upToD (b.below h.N.size λj f e=>by have:=a _ e;omega),b.blk h.T (λe=>by have:=a _ e;omega)⟩
end
def aCb{B n:Nat}{q:vB}{w:World}(a:RV w B (uB 4 (n:Nat)++q))(c:n<4294967296)(b:q.size<=1000000):Calls prog 168 #[.pointer (cC B),dB 4] w λe w'=>e=.returned (dB n)/\RV w' B q/\uD B w w':=
 jV (k:=4) a (by omega) (DQ (by omega) (by omega)) b
def pv{B:Nat}{v:Int}{q:vB}{w:World}(a:RV w B (uB 8 v++q))(c:xV v)(b:q.size<=1000000):Calls prog 168 #[.pointer (cC B),dB 8] w λe w'=>e=.returned (dB v)/\RV w' B q/\uD B w w':=
 jV (k:=8) a (by omega) (fY _ c) b
def fe{B k:Nat}{ps:List pB}{q:vB}(h:k<ps.length)(g:QP ps)(i:ab ps)(j:(nE ps++q).size<=1000000):∃(d:vB)(c:Int)(m:vB),fB (∀W,RV W B (nE (ps.drop k)++q)->Calls prog 170 #[.pointer (cC B),dB 2] W λe w'=>e=.returned (.string d)/\RV w' B m/\uD B W w')/\fB (∀W,RV W B m->Calls prog 168 #[.pointer (cC B),dB 8] W λe w'=>e=.returned (dB c)/\RV w' B (nE (ps.drop (k+1))++q)/\uD B W w')/\fB (TD (ps.take (k+1))=TD (ps.take k)++[.string d,dB c]):=by
 have b:=Kd ByteArray.size (iW (ps.take k) (ps.drop k));have e:nE (ps.drop k)++q=uB 2 (ps[k].s.size:Nat)++ps[k].s++(uB 8 ps[k].n++(nE (ps.drop (k+1))++q)):=by
  rw[Cb h,nE,KY,eG];simp only[Wa]
 have f:=Kd ByteArray.size e;rw[Za]at b;have l:=g k h;simp only[Ka,oB]at b j f;refine⟨ps[k].s,ps[k].n,uB 8 ps[k].n++(nE (ps.drop (k+1))++q),λW a=>?_,λW a=>pv a (i k h) (by rw[Ka];omega),by show _=_;rw[Pa h];simp only[TD,He,Xc,List.flatMap_nil,Cd]⟩;rw[e]at a;exact FQ (k:=2) a (by omega) (by omega) (by simp only[Ka,oB];omega)
def TnV(B:Nat)(t:kB)(q:vB)(w:World)(e:Ending)(w':World):Prop:=
 ∃M a c b d,e=.returned (.agg #[.string t.N,dB t.L,.slice a t.M.length c,.slice b t.Z.length d])/\w.1.size<=M/\kD w' w.1.size a t.M/\(∀g o,a=some (iB g o)->g<M)/\kD w' M b t.Z/\M<=w'.1.size/\RV w' B q/\uD B w w'
def ie{B:Nat}{t:kB}{q:vB}{w:World}(U:RV w B (mQ t++q))(h:sJ t)(p:xV t.L/\ab t.M/\ab t.Z)(hs:(mQ t++q).size<=1000000):
 Calls prog 255 #[.pointer (cC B)] w λe w'=>TnV B t q w e w':=by
 have l:=eB U;obtain⟨z,L,d,o⟩:=t;obtain⟨o1,m,r⟩:=h;obtain⟨N,T,Y⟩:=p;dsimp only at o1 m r N T Y;have hz:=yZ ⟨z,L,d,o⟩;have Z:=pS d;have hz2:=pS o;dsimp only at hz;rw[Ka]at hs;have h:d.length<=1000000:=by omega
 have h:o.length<=1000000:=by omega
 rw[show mQ ⟨z,L,d,o⟩++q=uB 1 (z.size:Nat)++z++(uB 8 L++(uB 4 (d.length:Nat)++(nE d++(uB 4 (o.length:Nat)++(nE o++q))))) by simp only[mQ,FU,vM,Wa]]at U;have G:fB (TG w (w.alloc (.cells #[.string ⟨#[]⟩,dB 0,.slice none 0 0,.slice none 0 0] 105)) B w.1.size #[.string ⟨#[]⟩,dB 0,.slice none 0 0,.slice none 0 0] 105 _):=⟨rB.new _ _ _,uD.of aC,rB.alloc U _⟩
 have I:=gB (λW h=>FQ (B:=B) (w:=W) (k:=1) (t:=z) (q:=uB 8 L++(uB 4 (d.length:Nat)++(nE d++(uB 4 (o.length:Nat)++(nE o++q))))) h (by omega) (by omega) (by simp only[Ka,oB];omega));have J:=gB (λW h=>pv (B:=B) (w:=W) (v:=L) (q:=uB 4 (d.length:Nat)++(nE d++(uB 4 (o.length:Nat)++(nE o++q)))) h N (by simp only[Ka,oB];omega));have K:=gB (λW h=>aCb (B:=B) (w:=W) (n:=d.length) (q:=nE d++(uB 4 (o.length:Nat)++(nE o++q))) h (by omega) (by simp only[Ka,oB];omega));have O:=gB (λW h=>aCb (B:=B) (w:=W) (n:=o.length) (q:=nE o++q) h (by omega) (by simp only[Ka];omega));have W:=gB (λk P=>fe (B:=B) (k:=k) (q:=uB 4 (o.length:Nat)++(nE o++q)) P m T (by simp only[Ka,oB];omega));have HP2:=gB (λk P=>fe (B:=B) (k:=k) (q:=q) P r Y (by simp only[Ka];omega));have Q0:fB (uB 4 (o.length:Nat)++(nE o++q)=nE (d.drop d.length)++(uB 4 (o.length:Nat)++(nE o++q))/\q=nE (o.drop o.length)++q):=by constructor<;>simp[nE]
 unfold TnV;dsimp only;clear U hs hz Z hz2 o1 m r N T Y;generalize uB 4 (o.length:Nat)++(nE o++q)=r at *;go_enter func255,ntmps255;go_wp2_with fail;apply oC (I.o _ G.o.T);rintro w1 ⟨p,m⟩;replace G:=gB (G.o.call p m l);clear p m I;go_wp2_with fail;apply oC (J.o _ G.o.T);rintro w2 ⟨p,m⟩;replace G:=gB (G.o.call p m l);clear p m J;have I:=eB G.o.Z;have X:=gB (rB.new w2 #[.string z,dB L,.slice none 0 0,.slice none 0 0] 105);replace G:=gB (G.o.alloc (.cells #[.string z,dB L,.slice none 0 0,.slice none 0 0] 105));go_wp2_with fail;apply oC (K.o _ G.o.T);rintro I ⟨p,m⟩;replace G:=gB (G.o.call p m l);replace X:=gB (X.o.but m (by omega));clear p m K;generalize w2.1.size=H at *;go_wp2;go_loopw [11] (λi wr=>∃(k:Nat)(v:Value),k<=d.length/\i=dB k/\fB (TG w wr B w.1.size #[.string ⟨#[]⟩,dB 0,.slice none 0 0,.slice none 0 0] 105 (nE (d.drop k)++r))/\fB (rB wr H #[.string z,dB L,v,.slice none 0 0] 105)/\fB (wr.ownsRow (H+1) 107 2 v k (TD (d.take k)))) (λi _=>d.length-(intOf i).toNat)
 case atStart=>exact⟨0,_,Oa _,rfl,G.o,X.o,World.ownsRow_nil _ _ _ _⟩
 case round=>
  clear G X;obtain⟨k,v,P,rfl,G,X,R⟩:=hrel;by_cases F:k<d.length
  .obtain ⟨tx,nu,rA,P1,P2,F1⟩:=W.o k F;have r:=eB X.o;have c0:gD wr H 2 v:=X.o.cell 2;go_wp2_with fail;go_region_law (first
    |((fail_if_success (have q:=a));refine jF (f:=170) (args:=#[.pointer (some ⟨B,0,none⟩),.int .i64 2]) rfl (by go_simp) ?_;apply oC (P1.o _ (rB.z G.o.T jD.drew));rintro w1 ⟨a,D⟩;have C:uD B wr w1:=(uD.of jD.drew).trans D;have I:=(X.o.but C (by omega)).cell 2;refine⟨_,rfl,?_⟩)
    |(have q:=a;clear q;(fail_if_success (have q:=b));refine jF (f:=168) (args:=#[.pointer (some ⟨B,0,none⟩),.int .i64 8]) rfl (by go_simp) ?_;apply oC (P2.o _ a);rintro w4 ⟨b,E⟩;have y:uD B wr w4:=C.trans E;have x:=gB (X.o.but y (by omega));have x4:=x.o.cell 2;have x5:=(x.o.alloc (.cells #[.string tx,.int .i64 nu] 107)).cell 2;refine⟨_,rfl,?_⟩)
    |(have q:=b;clear q;refine dS (by rfl) _ _ (by rfl) underlying102 cV rfl (by omega) (by omega) (v:=v) (by rfl) ((jB.but y).row R.o (λg s e=>by have:=(R.o.lt g s).1;omega)) (by rfl) (by rfl) rfl (by simp[Value.oneCell']) (by omega) (by have:=y.size;omega) ?_;intro gg cap w5 J A _;have s5:=(A.o.blk x.o (λe=>by omega)).cell 2;have c:=(A.o.blk x.o (λe=>by omega)).free 2))
   all_goals
    obtain⟨N,T,S⟩:=oR x.o A.o J.o (Nat.lt_succ_self _) 2;go_wp2;exact⟨⟨k+1,_,by omega,by go_num,(G.o.call b y l).turn S (λj e=>by omega) l (Ia _),gB (by simpa using N),gB (by rw[F1.o];exact T)⟩,by simp[intOf];omega⟩
  obtain rfl:k=d.length:=by omega
  rw[Rb]at R;rw[<-Q0.o.1]at G;go_wp2_with fail;apply oC (O.o _ G.o.T);rintro w5 ⟨p,m⟩;have U:=eB X.o;have Q:=λg(s:v.ownBlock=some g)=>(R.o.lt g s).2;have W:=G.o.N.size;have Z:=m.size;have Y:=gB ((jB.but m).row R.o (λg s e=>by have:=(R.o.lt g s).1;omega));replace G:=gB (G.o.call p m l);replace X:=gB (X.o.but m (by omega));clear p m O R;generalize wr.1.size=M at *;obtain⟨v1,rfl⟩:∃n,n=v:=⟨v,rfl⟩
  clear wr;go_wp2;go_loopw [26] (λi wr=>∃(k:Nat)(v:Value),k<=o.length/\i=dB k/\fB (TG w wr B w.1.size #[.string ⟨#[]⟩,dB 0,.slice none 0 0,.slice none 0 0] 105 (nE (o.drop k)++q))/\fB (rB wr H #[.string z,dB L,v1,v] 105)/\fB (wr.ownsRow M 109 2 v k (TD (o.take k)))/\fB (wr.ownsRow (H+1) 107 2 v1 d.length (TD d))/\M<=wr.1.size) (λi _=>o.length-(intOf i).toNat)
  case atStart=>exact⟨0,_,Oa _,rfl,G.o,X.o,World.ownsRow_nil _ _ _ _,Y.o,Z⟩
  case round=>
   clear G X Y;obtain⟨k,v,P,rfl,G,X,R,Y,m⟩:=hrel;by_cases F:k<o.length
   .obtain ⟨tx,nu,rA,P1,P2,F1⟩:=HP2.o k F;have O:=m;have r:=eB X.o;have c0:gD wr H 3 v:=X.o.cell 3;go_wp2_with fail;go_region_law (first
     |((fail_if_success (have q:=a));refine jF (f:=170) (args:=#[.pointer (some ⟨B,0,none⟩),.int .i64 2]) rfl (by go_simp) ?_;apply oC (P1.o _ (rB.z G.o.T jD.drew));rintro w1 ⟨a,D⟩;have C:uD B wr w1:=(uD.of jD.drew).trans D;have I:=(X.o.but C (by omega)).cell 3;refine⟨_,rfl,?_⟩)
     |(have q:=a;clear q;(fail_if_success (have q:=b));refine jF (f:=168) (args:=#[.pointer (some ⟨B,0,none⟩),.int .i64 8]) rfl (by go_simp) ?_;apply oC (P2.o _ a);rintro w4 ⟨b,E⟩;have y:uD B wr w4:=C.trans E;have x:=gB (X.o.but y (by omega));have x4:=x.o.cell 3;have x5:=(x.o.alloc (.cells #[.string tx,.int .i64 nu] 109)).cell 3;refine⟨_,rfl,?_⟩)
     |(have q:=b;clear q;refine dS (by rfl) _ _ (by rfl) underlying103 vY rfl (by omega) (by omega) (v:=v) (by rfl) ((jB.but y).row R.o (λg s e=>by have:=(R.o.lt g s).1;omega)) (by rfl) (by rfl) rfl (by simp[Value.oneCell']) (by omega) (by have:=y.size;omega) ?_;intro gg cap w5 J A _;have s5:=(A.o.blk x.o (λe=>by omega)).cell 3;have c:=(A.o.blk x.o (λe=>by omega)).free 3))
    all_goals
     obtain⟨N,T,S⟩:=oR x.o A.o J.o U 3;go_wp2;exact⟨⟨k+1,_,by omega,by go_num,(G.o.call b y l).turn S (λj e=>by omega) l (Ia _),gB (by simpa using N),gB (by rw[F1.o];exact T),S.row ((jB.but y).row Y.o (λg s e=>by have:=(Y.o.lt g s).1;omega)) (λg s e=>by have r:=Q g s;have r:=(Y.o.lt g s).1;omega),Ua m (Ua y.size S.size)⟩,by simp[intOf];omega⟩
   obtain rfl:k=o.length:=by omega
   rw[Rb]at R;rw[<-Q0.o.2]at G;obtain⟨o,r,rfl⟩:=nK R.o;obtain⟨J,rc,rfl⟩:=nK Y.o;obtain⟨N,a1,a2,N⟩:=X.o.c4;obtain⟨N,C,O,T⟩:=G.o.Z.c4;have U:=G.o.Z.free;have U:=eB G.o.Z;go_wp2;have u:=λU I Z x3=>((((jB.refl (·=w.1.size) wr).setCell (Ca rfl) 0 U).setCell (Ca rfl) 1 I).setCell (Ca rfl) 2 Z).setCell (Ca rfl) 3 x3;refine bodyPost_ret (v:=?_) (by simp[results,results255,go_sem,N,C,O,T];rfl) rfl ⟨M,J,rc,o,r,rfl,W,?_,λg o h=>Q g (by rw[h];rfl),?_,?_,(u _ _ _ _).blk G.o.T (by omega),G.o.N.upToD ((u _ _ _ _).below (by omega) λq V e=>by omega)⟩
   .exact (rD ((u _ _ _ _).row Y.o (λq V e=>by have:=(Y.o.lt q V).1;omega))).mono (by omega)
   .exact rD ((u _ _ _ _).row R.o (λq V e=>by have:=(R.o.lt q V).1;omega))
   exact Ua m (u _ _ _ _).size
