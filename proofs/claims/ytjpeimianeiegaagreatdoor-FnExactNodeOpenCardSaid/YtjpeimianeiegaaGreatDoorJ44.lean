import Derived.Test.YtjpeimianeiegaaGreatDoorJ43
import Derived.Laws.CopyOwn
set_option maxRecDepth 100000
set_option maxHeartbeats 16000000
namespace Go.Proofs.YtjpeimianeiegaaGreatDoor
open Go.RowKit Tryz
section
attribute [local go_sem] AZ fU bd lA.drewI JG.drewI JG.new JG.alloc JG.alloc2
theorem sQ {w w':World} {cs:Array Value} {t:TypeId} (h:Below (w.alloc (.cells cs t)).heap.size (w.alloc (.cells cs t)) w'):lA w' w.heap.size cs t:=(lA.new w cs t).later h
theorem GP {w w':World} {cs:Array Value} {t:TypeId} (h:Below (w.alloc (.cells cs t)).drew.heap.size (w.alloc (.cells cs t)).drew w'):lA w' w.heap.size cs t:=(lA.new w cs t).later ⟨h.os,h.tape,h.output,h.size,h.block⟩
section
variable {wv wf:World} {M:cF} {cs:Array Value} {X L:Nat}
theorem ye (c:FN wf M cs) (b:lA wf X (cG none 0 none 0 wO) 37) (a:wv.heap.size<=X) (k:Below wv.heap.size wv wf):lA (wf.setRow X cs) X cs 37/\FN (wf.setRow X cs) M cs/\wv.heap.size<=X/\Below wv.heap.size wv (wf.setRow X cs):=
 ⟨b.row,c.store b (ab _ _ _ _ _) (sR _ _ _),a,below_setRow k a _⟩
theorem aMj (a:FN wf M cs) (k:Below wv.heap.size wv wf):lA ((wf.alloc (.cells (cG none 0 none 0 wO) 37)).setRow wf.heap.size cs) wf.heap.size cs 37/\FN ((wf.alloc (.cells (cG none 0 none 0 wO) 37)).setRow wf.heap.size cs) M cs/\wv.heap.size<=wf.heap.size/\Below wv.heap.size wv ((wf.alloc (.cells (cG none 0 none 0 wO) 37)).setRow wf.heap.size cs):=
 ye (a.later (cA _ _)) (lA.new _ _ _) k.size (pA k (cA _ _))
def NX (wv W:World) (M:cF) (X:Nat) (cs:Array Value):Prop:=∃L H,lA W X cs 37/\AN W (fun x=>L<=x/\x<H) M cs/\wv.heap.size<=L/\H<=W.heap.size/\(X<L\/H<=X)/\wv.heap.size<=X/\Below wv.heap.size wv W
theorem ZY (b:AN wf (fun x=>L<=x/\x<wf.heap.size) M cs) (c:wv.heap.size<=L) (f:lA wf X (cG none 0 none 0 wO) 37) (d:X<L) (a:wv.heap.size<=X) (k:Below wv.heap.size wv wf):NX wv (wf.setRow X cs) M X cs:=
 ⟨L,wf.heap.size,f.row,b.turned (sR _ X _) (fun x a _ e=>by omega),c,by simp,Ba d,a,below_setRow k a _⟩
theorem aGx (a:AN wf (fun x=>L<=x/\x<wf.heap.size) M cs) (b:wv.heap.size<=L) (k:Below wv.heap.size wv wf):NX wv ((wf.alloc (.cells (cG none 0 none 0 wO) 37)).setRow wf.heap.size cs) M wf.heap.size cs:=
 ⟨L,wf.heap.size,lA.row (lA.new _ _ _),(a.later (cA _ _)).turned (sR _ wf.heap.size _) (fun x c _ e=>by omega),b,by simp,Ea (Da _),k.size,below_setRow (pA k (cA _ _)) k.size _⟩
end
theorem aPl (c:nB) (T:TypeId):∃cs a b d e f g,tE c=.agg cs/\#[a,b,d,e,f,g]=cs/\∀W X,lA W X cs T->W.cell? ⟨X,0,none⟩=some a/\W.cell? ⟨X,1,none⟩=some b/\W.cell? ⟨X,2,none⟩=some d/\W.cell? ⟨X,3,none⟩=some e/\W.cell? ⟨X,4,none⟩=some f/\W.cell? ⟨X,5,none⟩=some g:=
 ⟨_,_,_,_,_,_,_,rfl,rfl,fun _ _ h=>h.c6⟩
theorem aJv {C:World->Prop} {w:World} {cs:Array Value} {T:TypeId} (k:∀W,Below w.heap.size w W->lA W w.heap.size cs T->C W):C (w.alloc (.cells cs T)):=k _ (cA _ _) (lA.new _ _ _)
def dkC (a:Option Addr) (b:Nat) (K:kB):Array Value:=#[.slice a K.fs.length b,.int .i64 K.c,.int .i64 K.k,.int .i64 K.cr,.int .i64 K.fl,.bool K.dn]
def FD (w:World) (K:kB) (cs:Array Value):Prop:=∃a b,cs=dkC a b K/\iA w a K.fs
def AD (w:World) (A:Nat->Prop) (K:kB) (cs:Array Value):Prop:=∃a b,cs=dkC a b K/\aH w A a K.fs
section
variable {w w':World} {K:kB} {cs:Array Value} {A S:Nat→Prop}
theorem AD.fd (h:AD w A K cs):FD w K cs:=by
 obtain⟨a,b,e,h⟩:=h;exact⟨a,b,e,h.files⟩
theorem FD.later (h:FD w K cs) (c:Below w.heap.size w w'):FD w' K cs:=by
 obtain⟨a,b,e,h⟩:=h;exact⟨a,b,e,h.later c⟩
theorem AD.later (h:AD w A K cs) (c:Below w.heap.size w w'):AD w' A K cs:=by
 obtain⟨a,b,e,h⟩:=h;exact⟨a,b,e,h.later c⟩
end
structure NoC (w:World) (cq:Array Value) (va:Option Addr) (vc n:Nat) (k1 k2 k3 k4:Int) (kb:Bool) (K:kB) (M:cF) (code KM QM:Int):Prop where
 tc:∀W,Calls prog 6 #[.agg cq] W fun e w'=>e=.returned (.agg cq)∧Below W.heap.size W w'
 td:∀W,Below w.heap.size w W→Calls prog 7 #[.agg #[.slice va n vc,.int .i64 k1,.int .i64 k2,.int .i64 k3,.int .i64 k4,.bool kb]] W fun e w'=>∃ea ec,e=.returned (.agg #[.slice ea n ec,.int .i64 k1,.int .i64 k2,.int .i64 k3,.int .i64 k4,.bool kb])∧AD w' (fun x=>W.heap.size≤x∧x<w'.heap.size) K #[.slice ea n ec,.int .i64 k1,.int .i64 k2,.int .i64 k3,.int .i64 k4,.bool kb]∧Below W.heap.size W w'
 sp:∀W ea ec,FD W K #[.slice ea n ec,.int .i64 k1,.int .i64 k2,.int .i64 k3,.int .i64 k4,.bool kb]→Calls prog 5 #[.agg cq,.agg #[.slice ea n ec,.int .i64 k1,.int .i64 k2,.int .i64 k3,.int .i64 k4,.bool kb]] W fun e w'=>∃cs,e=.returned (.tuple #[.agg cs,.int .i64 code])∧FN w' M cs∧Below W.heap.size W w'
 im:∀W ea ec,FD W K #[.slice ea n ec,.int .i64 k1,.int .i64 k2,.int .i64 k3,.int .i64 k4,.bool kb]→Below w.heap.size w W→Calls prog 8 #[.agg cq,.agg #[.slice ea n ec,.int .i64 k1,.int .i64 k2,.int .i64 k3,.int .i64 k4,.bool kb]] W fun e w'=>∃cs,e=.returned (.tuple #[.agg cs,.int .i64 code])∧AN w' (fun x=>W.heap.size≤x∧x<w'.heap.size) M cs∧Below W.heap.size W w'
 ed:∀W ea ec ga gc,FD W K #[.slice ea n ec,.int .i64 k1,.int .i64 k2,.int .i64 k3,.int .i64 k4,.bool kb]→FD W K #[.slice ga n gc,.int .i64 k1,.int .i64 k2,.int .i64 k3,.int .i64 k4,.bool kb]→Calls prog 10 #[.agg #[.slice ea n ec,.int .i64 k1,.int .i64 k2,.int .i64 k3,.int .i64 k4,.bool kb],.agg #[.slice ga n gc,.int .i64 k1,.int .i64 k2,.int .i64 k3,.int .i64 k4,.bool kb]] W fun e w'=>e=.returned (.bool true)∧Below W.heap.size W w'
 ev:∀W cs cs',FN W M cs→FN W M cs'→Calls prog 9 #[.agg cs,.agg cs'] W fun e w'=>e=.returned (.bool true)∧Below W.heap.size W w'
 md:∀W A ea ec,AD W A K #[.slice ea n ec,.int .i64 k1,.int .i64 k2,.int .i64 k3,.int .i64 k4,.bool kb]→Calls prog 11 #[.agg #[.slice ea n ec,.int .i64 k1,.int .i64 k2,.int .i64 k3,.int .i64 k4,.bool kb],.int .i64 1] W fun e w'=>e=.returned (.int .i64 KM)∧gA A W w'
 mv:∀W A cs,AN W A M cs→(∀x,A x→x<W.heap.size)→Calls prog 12 #[.agg cs,.int .i64 1] W fun e w'=>e=.returned (.int .i64 QM)∧gA A W w'∧HN w' M cs
 hv:∀W cs,HN W M cs→Calls prog 13 #[.agg cs,.int .i64 1] W fun e w'=>e=.returned (.int .i64 QM)∧Below W.heap.size W w'
 k0:¬KM<0
 q0:¬QM<0
theorem aGj {w:World} {t:Array Value} {K:kB} {M:cF} {code KM QM s1:Int} {q0 q1 q2 q3 q4 q5:Value} {z:Option Addr} {B n:Nat} {d g j k:Int} {l:Bool} (fq:#[q0,q1,q2,q3,q4,q5]=t) (rq:∀W X,lA W X t 23->W.cell? ⟨X,0,none⟩=some q0/\W.cell? ⟨X,1,none⟩=some q1/\W.cell? ⟨X,2,none⟩=some q2/\W.cell? ⟨X,3,none⟩=some q3/\W.cell? ⟨X,4,none⟩=some q4/\W.cell? ⟨X,5,none⟩=some q5)
 (HSZ:Hid (∀W,Below w.heap.size w W->Calls prog 4 #[.agg #[.slice z n B,.int .i64 d,.int .i64 g,.int .i64 j,.int .i64 k,.bool l],.int .i64 1048576] W fun e w'=>e=.returned (.int .i64 s1)/\Below W.heap.size W w'))
 (HH:Hid (0<=s1->NoC w t z B n d g j k l K M code KM QM)):
 Calls prog 3 #[.agg t,.agg #[.slice z n B,.int .i64 d,.int .i64 g,.int .i64 j,.int .i64 k,.bool l]] w fun e w'=>e=.returned (.bool true)/\Below w.heap.size w w':=by
 have fz:=ad;have rv:∀W X,lA W X #[.slice z n B,.int .i64 d,.int .i64 g,.int .i64 j,.int .i64 k,.bool l] 26->W.cell? ⟨X,0,none⟩=some (.slice z n B)/\W.cell? ⟨X,1,none⟩=some (.int .i64 d)/\W.cell? ⟨X,2,none⟩=some (.int .i64 g)/\W.cell? ⟨X,3,none⟩=some (.int .i64 j)/\W.cell? ⟨X,4,none⟩=some (.int .i64 k)/\W.cell? ⟨X,5,none⟩=some (.bool l):=fun _ _ h=>h.c6;go_enter func3,ntmps3;go_upto_region 2 with fail;refine aEi (C:=fun W=>Code.wp prog _ _ _ W) ?_;intro w0 B0 A0 S0 hz;clear hz;go_wp2_with fail;refine(HSZ.out _ B0).mono ?_;rintro e y ⟨rfl,a⟩;have B1:=bA (pA B0 a);have A1:=A0.later a;have S1:=S0.later a;clear A0 S0 B0 a HSZ;by_cases h0:s1<0
 ·go_wp2;go_ret;exact⟨rfl,B1.out⟩
 have H:=bA (HH.out (by omega));clear HH;have m:=bA (fun w' (h:Below y.heap.size y w')=>show lA w' w.heap.size t 23/\lA w' (w.heap.size+1) #[.slice z n B,.int .i64 d,.int .i64 g,.int .i64 j,.int .i64 k,.bool l] 26 from⟨A1.later h,S1.later h⟩);go_upto_region 5 with fail;go_cut [6,7] (fun p ok wx=>∃X cs,p=.pointer (some ⟨X,0,none⟩)/\ok=.int .i64 code/\lA wx X cs 37/\FN wx M cs/\y.heap.size<=X/\Below y.heap.size y wx)
 case first=>
  as_aux_lemma=>
   go_region_held3 (fun w'=>lA w' w.heap.size t 23/\lA w' (w.heap.size+1) #[.slice z n B,.int .i64 d,.int .i64 g,.int .i64 j,.int .i64 k,.bool l] 26)
    (first|with_reducible exact m.out _ u|with_reducible exact m.out _ c|with_reducible exact m.out _ b|with_reducible exact m.out _ (pA u (cA _ _))|with_reducible exact m.out _ (pA c (cA _ _))|with_reducible exact m.out _ (pA b (cA _ _))|with_reducible exact m.out _ ((cA _ _).drew)|with_reducible exact m.out _ ((Below.refl _ _).drew)|exact m.out _ (below_setRow u x2 _)|exact m.out _ (below_setRow (pA u (cA _ _)) u.size _))
    (first
     |((fail_if_success (have q:=b));refine qD (f:=6) (args:=#[.agg t]) (by rfl) (by go_simp) ?_;refine(H.out.tc _).mono ?_;rintro e O ⟨rfl,a⟩;refine⟨_,rfl,?_⟩;have b:Below y.heap.size y O:=(by with_reducible exact pA ((Below.refl _ _).drew) a))
     |((fail_if_success (have q:=b));refine qD (f:=6) (args:=#[.agg t]) (by rfl) (by go_simp) ?_;refine(H.out.tc _).mono ?_;rintro e O ⟨rfl,a⟩;refine⟨_,rfl,?_⟩;have b:Below y.heap.size y O:=(by with_reducible exact pA ((cA _ _).drew) a);have z0:=GP a;have x0:=Da y.heap.size)
     |((fail_if_success (have q:=c));have q:=b;clear q;refine qD (f:=7) (args:=#[.agg #[.slice z n B,.int .i64 d,.int .i64 g,.int .i64 j,.int .i64 k,.bool l]]) (by rfl) (by go_simp) ?_;refine(H.out.td _ (by with_reducible exact pA B1.out (b))).mono ?_;rintro e P ⟨ea,ec,rfl,R,a⟩;refine⟨_,rfl,?_⟩;have c:Below y.heap.size y P:=(by with_reducible exact pA (b) a);(try (have Q:=z0.later a;have x1:=x0));have n1:=R.fd)
     |((fail_if_success (have q:=c));have q:=b;clear q;refine qD (f:=7) (args:=#[.agg #[.slice z n B,.int .i64 d,.int .i64 g,.int .i64 j,.int .i64 k,.bool l]]) (by rfl) (by go_simp) ?_;refine(H.out.td _ (by with_reducible exact pA B1.out (pA b (cA _ _)))).mono ?_;rintro e P ⟨ea,ec,rfl,R,a⟩;refine⟨_,rfl,?_⟩;have c:Below y.heap.size y P:=(by with_reducible exact pA (pA b (cA _ _)) a);have Q:=sQ a;have x1:=b.size;have n1:=R.fd)
     |((fail_if_success (have q:=u));have q:=c;clear q;refine qD (f:=5) (args:=#[.agg t,.agg #[.slice ea n ec,.int .i64 d,.int .i64 g,.int .i64 j,.int .i64 k,.bool l]]) (by rfl) (by go_simp) ?_;refine(H.out.sp _ _ _ (by with_reducible exact n1)).mono ?_;rintro e u2 ⟨cs2,rfl,hF,a⟩;refine⟨_,rfl,?_⟩;have u:Below y.heap.size y u2:=(by with_reducible exact pA (c) a);(try (have z2:=Q.later a;have x2:=x1));have c2:=hF.c14;have d2:=c2.size;(try (have b2:=z2.box rfl)))
     |((fail_if_success (have q:=u));have q:=c;clear q;refine qD (f:=5) (args:=#[.agg t,.agg #[.slice ea n ec,.int .i64 d,.int .i64 g,.int .i64 j,.int .i64 k,.bool l]]) (by rfl) (by go_simp) ?_;refine(H.out.sp _ _ _ (by with_reducible exact n1.later (cA _ _))).mono ?_;rintro e u2 ⟨cs2,rfl,hF,a⟩;refine⟨_,rfl,?_⟩;have u:Below y.heap.size y u2:=(by with_reducible exact pA (pA c (cA _ _)) a);have z2:=sQ a;have x2:=c.size;have c2:=hF.c14;have d2:=c2.size;(try (have b2:=z2.box rfl))))
   all_goals(go_wp2_with fail;go_meet)
   all_goals first
    |with_reducible exact⟨_,_,rfl,rfl,aMj hF u⟩
    |exact⟨_,_,rfl,rfl,ye hF z2 x2 u⟩
 obtain⟨X0,c0,rfl,rfl,J,hF,hX0,a⟩:=hcut;rename World=>w4;have XB0:=bA J;have U:=bA hF;have B4:=bA (pA B1.out a);have A4:=bA (A1.later a);have S4:=S1.later a;clear J hF a m A1 S1 B1 hX0;go_wp2_with fail;refine(H.out.td _ B4.out).mono ?_;rintro e w5 ⟨ga,gc,rfl,R,a⟩;have O5:=bA R;have B45:=bA a;have h45:=a.size;replace S4:=bA S4;clear R a;go_upto_region 7 with fail;refine aJv (C:=fun W=>Code.wp prog _ _ _ W) ?_;intro T hb6 X6;have HXS:Hid (∃X,X=w5.heap.size):=⟨_,rfl⟩
 obtain⟨X,hX⟩:=HXS.out;rw[<-hX]at X6 |-
 have B47:=bA (pA B45.out hb6);have B57:=bA hb6;have B7:=bA (pA B4.out B47.out);have X7:=bA X6;have h57:=hb6.size;have A7:=A4.out.later B47.out;have FX:=bA (O5.out.fd.later hb6);clear hb6 hX HXS X6;have rG:∀W Y,lA W Y #[.slice ga n gc,.int .i64 d,.int .i64 g,.int .i64 j,.int .i64 k,.bool l] 30->W.cell? ⟨Y,0,none⟩=some (.slice ga n gc)/\W.cell? ⟨Y,1,none⟩=some (.int .i64 d)/\W.cell? ⟨Y,2,none⟩=some (.int .i64 g)/\W.cell? ⟨Y,3,none⟩=some (.int .i64 j)/\W.cell? ⟨Y,4,none⟩=some (.int .i64 k)/\W.cell? ⟨Y,5,none⟩=some (.bool l):=fun _ _ h=>h.c6;have v:=bA (fun w' (h:Below T.heap.size T w')=>show lA w' w.heap.size t 23/\lA w' X #[.slice ga n gc,.int .i64 d,.int .i64 g,.int .i64 j,.int .i64 k,.bool l] 30 from⟨A7.later h,X7.out.later h⟩);go_upto_region 7 with fail;go_cut [9,10] (fun p ok wx=>∃X cs,p=.pointer (some ⟨X,0,none⟩)/\ok=.int .i64 code/\NX T wx M X cs)
 case first=>
  as_aux_lemma=>
   go_region_held3 (fun w'=>lA w' w.heap.size t 23/\lA w' X #[.slice ga n gc,.int .i64 d,.int .i64 g,.int .i64 j,.int .i64 k,.bool l] 30)
    (first|with_reducible exact v.out _ c|with_reducible exact v.out _ b|with_reducible exact v.out _ (pA c (cA _ _))|with_reducible exact v.out _ (pA b (cA _ _))|with_reducible exact v.out _ ((cA _ _).drew)|with_reducible exact v.out _ ((Below.refl _ _).drew)|exact v.out _ (below_setRow c x1 _)|exact v.out _ (below_setRow (pA c (cA _ _)) c.size _))
    (first
     |((fail_if_success (have q:=b));refine qD (f:=6) (args:=#[.agg t]) (by rfl) (by go_simp) ?_;refine(H.out.tc _).mono ?_;rintro e O ⟨rfl,a⟩;refine⟨_,rfl,?_⟩;have b:Below T.heap.size T O:=(by with_reducible exact pA ((Below.refl _ _).drew) a))
     |((fail_if_success (have q:=b));refine qD (f:=6) (args:=#[.agg t]) (by rfl) (by go_simp) ?_;refine(H.out.tc _).mono ?_;rintro e O ⟨rfl,a⟩;refine⟨_,rfl,?_⟩;have b:Below T.heap.size T O:=(by with_reducible exact pA ((cA _ _).drew) a);have z0:=GP a;have x0:=Da T.heap.size)
     |((fail_if_success (have q:=c));have q:=b;clear q;refine qD (f:=8) (args:=#[.agg t,.agg #[.slice ga n gc,.int .i64 d,.int .i64 g,.int .i64 j,.int .i64 k,.bool l]]) (by rfl) (by go_simp) ?_;refine(H.out.im _ _ _ (by with_reducible exact FX.out.later (b)) (by with_reducible exact pA B7.out (b))).mono ?_;rintro e P ⟨cs2,rfl,I,a⟩;refine⟨_,rfl,?_⟩;have c:Below T.heap.size T P:=(by with_reducible exact pA (b) a);(try (have Q:=z0.later a;have x1:=x0));have c2:=I.fn.c14;have d2:=c2.size;have kz:=b.size;(try (have b2:=Q.box rfl));(try (have zl:=aA z0)))
     |((fail_if_success (have q:=c));have q:=b;clear q;refine qD (f:=8) (args:=#[.agg t,.agg #[.slice ga n gc,.int .i64 d,.int .i64 g,.int .i64 j,.int .i64 k,.bool l]]) (by rfl) (by go_simp) ?_;refine(H.out.im _ _ _ (by with_reducible exact FX.out.later (pA b (cA _ _))) (by with_reducible exact pA B7.out (pA b (cA _ _)))).mono ?_;rintro e P ⟨cs2,rfl,I,a⟩;refine⟨_,rfl,?_⟩;have c:Below T.heap.size T P:=(by with_reducible exact pA (pA b (cA _ _)) a);have Q:=sQ a;have x1:=b.size;have c2:=I.fn.c14;have d2:=c2.size;have kz:=b.size;(try (have b2:=Q.box rfl));(try (have zl:=aA z0))))
   all_goals(go_wp2_with fail;go_meet)
   all_goals first
    |with_reducible exact⟨_,_,rfl,rfl,aGx I kz c⟩
    |exact⟨_,_,rfl,rfl,ZY I kz Q zl x1 c⟩
    |exact⟨_,_,rfl,rfl,ZY I (by simp only[World.size_alloc];omega) Q (by simp only[World.size_alloc];omega) x1 c⟩
 obtain⟨XG,cg,rfl,rfl,L1,H1,J,N,hL1,hH1,hXL,hX1,a⟩:=hcut;rename World=>w8;have V:=bA J;have G:=bA N;have B78:=bA a;have B48:=bA (pA B47.out a);have X08:=XB0.out.later B48.out;clear a N v A7;obtain⟨j0,j1,j2,j3,j4,j5,j6,j7,j8,j9,j10,j11,j12,j13,fG,rN⟩:=G.out.fn.r 37;obtain⟨i0,i1,i2,i3,i4,i5,i6,i7,i8,i9,i10,i11,i12,i13,f0,rI⟩:=U.out.r 37;go_wp2_with fail;refine(H.out.ev _ _ _ G.out.fn (U.out.later B48.out)).mono ?_;rintro e w9 ⟨rfl,a⟩;have F:=bA (pA B78.out a);have E:=bA (pA B48.out a);replace G:=bA (G.out.later a);replace V:=bA (V.out.later a);have h89:=a.size;have S9:=S4.out.later E.out;have X9:=X7.out.later F.out;clear a J X08 fG rN j0 j1 j2 j3 j4 j5 j6 j7 j8 j9 j10 j11 j12 j13 f0 rI i0 i1 i2 i3 i4 i5 i6 i7 i8 i9 i10 i11 i12 i13;have HK9:=bA (fun w' (h:Below w9.heap.size w9 w')=>show lA w' X #[.slice ga n gc,.int .i64 d,.int .i64 g,.int .i64 j,.int .i64 k,.bool l] 30/\lA w' (w.heap.size+1) #[.slice z n B,.int .i64 d,.int .i64 g,.int .i64 j,.int .i64 k,.bool l] 26 from⟨X9.later h,S9.later h⟩);go_upto_region 10 with fail;go_cut [51] (fun s wx=>s=.bool false/\Below w9.heap.size w9 wx)
 case first=>
  as_aux_lemma=>
   go_region_held3 (fun w'=>lA w' X #[.slice ga n gc,.int .i64 d,.int .i64 g,.int .i64 j,.int .i64 k,.bool l] 30/\lA w' (w.heap.size+1) #[.slice z n B,.int .i64 d,.int .i64 g,.int .i64 j,.int .i64 k,.bool l] 26)
    (first|with_reducible exact HK9.out _ c|with_reducible exact HK9.out _ b|with_reducible exact HK9.out _ ((Below.refl _ _).drew))
    (first
     |((fail_if_success (have q:=b));refine qD (f:=7) (args:=#[.agg #[.slice z n B,.int .i64 d,.int .i64 g,.int .i64 j,.int .i64 k,.bool l]]) (by rfl) (by go_simp) ?_;refine(H.out.td _ ((pA B4.out E.out).drew)).mono ?_;rintro e O ⟨ea,ec,rfl,R,a⟩;refine⟨_,rfl,?_⟩;have b:Below w9.heap.size w9 O:=(by exact pA (Below.refl _ _).drew a))
     |(have q:=b;clear q;refine qD (f:=10) (args:=#[.agg #[.slice ga n gc,.int .i64 d,.int .i64 g,.int .i64 j,.int .i64 k,.bool l],.agg #[.slice ea n ec,.int .i64 d,.int .i64 g,.int .i64 j,.int .i64 k,.bool l]]) (by rfl) (by go_simp) ?_;refine(H.out.ed _ _ _ _ _ (FX.out.later (pA F.out b)) R.fd).mono ?_;rintro e P ⟨rfl,a⟩;refine⟨_,rfl,?_⟩;have c:Below w9.heap.size w9 P:=(by exact pA b a)))
   all_goals(go_wp2_with fail;go_meet)
   all_goals exact⟨rfl,c⟩
 obtain⟨rfl,a⟩:=hcut;rename World=>wa;replace F:=bA (pA F.out a);replace E:=bA (pA E.out a);replace G:=bA (G.out.later a);replace V:=bA (V.out.later a);have h9a:=a.size;have X9:=X7.out.later F.out;clear a HK9 S9;go_wp2_with fail;refine(H.out.md _ _ _ _ (O5.out.later (pA B57.out F.out))).mono ?_;rintro e we ⟨rfl,ht⟩;have B4e:=bA (E.out.trans (ht.below E.out.size fun i hi e=>by omega));replace G:=bA (G.out.turned ht (fun x hx _ e=>by omega));have Z:=ht.blk V.out (by omega);have X0e:=XB0.out.later B4e.out;have hde:=ht.size;have KR0:=H.out.k0;have QM0:=H.out.q0;clear ht X9;obtain⟨j0,j1,j2,j3,j4,j5,j6,j7,j8,j9,j10,j11,j12,j13,fG,rN⟩:=G.out.fn.r 37;obtain⟨i0,i1,i2,i3,i4,i5,i6,i7,i8,i9,i10,i11,i12,i13,f0,rI⟩:=U.out.r 37;go_wp2_with fail;refine(H.out.ev _ _ _ G.out.fn (U.out.later B4e.out)).mono ?_;rintro e wf ⟨rfl,a⟩;have B4f:=bA (pA B4e.out a);replace G:=bA (G.out.later a);replace Z:=Z.later a;have hef:=a.size;clear a X0e;go_wp2_with fail;refine(H.out.mv _ _ _ G.out (fun x hx=>by omega)).mono ?_;rintro e wg ⟨rfl,ht,hh⟩;have B4g:=bA (B4f.out.trans (ht.below B4f.out.size fun i hi e=>by omega));replace Z:=ht.blk Z (by omega);replace hh:=bA hh;clear ht B4f B4e;go_wp2_with fail;refine(H.out.hv _ _ hh.out).mono ?_;rintro e D ⟨rfl,a⟩;have B4h:=bA (pA B4g.out a);have Bh:=bA (pA B4.out B4h.out);have Ah:=A4.out.later B4h.out;have Sh:=S4.out.later B4h.out;clear a hh Z B4g;have o:=bA (fun w' (h:Below D.heap.size D w')=>show lA w' w.heap.size t 23/\lA w' (w.heap.size+1) #[.slice z n B,.int .i64 d,.int .i64 g,.int .i64 j,.int .i64 k,.bool l] 26 from⟨Ah.later h,Sh.later h⟩);clear hXL hL1 hH1 hX1 h57 h9a h89 hde hef h45 fG rN j0 j1 j2 j3 j4 j5 j6 j7 j8 j9 j10 j11 j12 j13 rG;go_upto_region 24 with fail;go_cut [14,15] (fun p ok wx=>∃X cs,p=.pointer (some ⟨X,0,none⟩)/\ok=.int .i64 code/\NX D wx M X cs)
 case first=>
  as_aux_lemma=>
   go_region_held3 (fun w'=>lA w' w.heap.size t 23/\lA w' (w.heap.size+1) #[.slice z n B,.int .i64 d,.int .i64 g,.int .i64 j,.int .i64 k,.bool l] 26)
    (first|with_reducible exact o.out _ u|with_reducible exact o.out _ c|with_reducible exact o.out _ b|with_reducible exact o.out _ (pA u (cA _ _))|with_reducible exact o.out _ (pA c (cA _ _))|with_reducible exact o.out _ (pA b (cA _ _))|with_reducible exact o.out _ ((cA _ _).drew)|with_reducible exact o.out _ ((Below.refl _ _).drew)|exact o.out _ (below_setRow u x2 _)|exact o.out _ (below_setRow (pA u (cA _ _)) u.size _))
    (first
     |((fail_if_success (have q:=b));refine qD (f:=6) (args:=#[.agg t]) (by rfl) (by go_simp) ?_;refine(H.out.tc _).mono ?_;rintro e O ⟨rfl,a⟩;refine⟨_,rfl,?_⟩;have b:Below D.heap.size D O:=(by with_reducible exact pA ((Below.refl _ _).drew) a))
     |((fail_if_success (have q:=b));refine qD (f:=6) (args:=#[.agg t]) (by rfl) (by go_simp) ?_;refine(H.out.tc _).mono ?_;rintro e O ⟨rfl,a⟩;refine⟨_,rfl,?_⟩;have b:Below D.heap.size D O:=(by with_reducible exact pA ((cA _ _).drew) a);have z0:=GP a;have x0:=Da D.heap.size)
     |((fail_if_success (have q:=c));have q:=b;clear q;refine qD (f:=7) (args:=#[.agg #[.slice z n B,.int .i64 d,.int .i64 g,.int .i64 j,.int .i64 k,.bool l]]) (by rfl) (by go_simp) ?_;refine(H.out.td _ (by with_reducible exact pA Bh.out (b))).mono ?_;rintro e P ⟨ea,ec,rfl,R,a⟩;refine⟨_,rfl,?_⟩;have c:Below D.heap.size D P:=(by with_reducible exact pA (b) a);(try (have Q:=z0.later a;have x1:=x0));have n1:=R.fd)
     |((fail_if_success (have q:=c));have q:=b;clear q;refine qD (f:=7) (args:=#[.agg #[.slice z n B,.int .i64 d,.int .i64 g,.int .i64 j,.int .i64 k,.bool l]]) (by rfl) (by go_simp) ?_;refine(H.out.td _ (by with_reducible exact pA Bh.out (pA b (cA _ _)))).mono ?_;rintro e P ⟨ea,ec,rfl,R,a⟩;refine⟨_,rfl,?_⟩;have c:Below D.heap.size D P:=(by with_reducible exact pA (pA b (cA _ _)) a);have Q:=sQ a;have x1:=b.size;have n1:=R.fd)
     |((fail_if_success (have q:=u));have q:=c;clear q;refine qD (f:=8) (args:=#[.agg t,.agg #[.slice ea n ec,.int .i64 d,.int .i64 g,.int .i64 j,.int .i64 k,.bool l]]) (by rfl) (by go_simp) ?_;refine(H.out.im _ _ _ (by with_reducible exact n1) (by with_reducible exact pA Bh.out (c))).mono ?_;rintro e u2 ⟨cs2,rfl,I,a⟩;refine⟨_,rfl,?_⟩;have u:Below D.heap.size D u2:=(by with_reducible exact pA (c) a);(try (have z2:=Q.later a;have x2:=x1));have c2:=I.fn.c14;have d2:=c2.size;have kz:=c.size;(try (have b2:=z2.box rfl));(try (have zl:=aA Q)))
     |((fail_if_success (have q:=u));have q:=c;clear q;refine qD (f:=8) (args:=#[.agg t,.agg #[.slice ea n ec,.int .i64 d,.int .i64 g,.int .i64 j,.int .i64 k,.bool l]]) (by rfl) (by go_simp) ?_;refine(H.out.im _ _ _ (by with_reducible exact n1.later (cA _ _)) (by with_reducible exact pA Bh.out (pA c (cA _ _)))).mono ?_;rintro e u2 ⟨cs2,rfl,I,a⟩;refine⟨_,rfl,?_⟩;have u:Below D.heap.size D u2:=(by with_reducible exact pA (pA c (cA _ _)) a);have z2:=sQ a;have x2:=c.size;have c2:=I.fn.c14;have d2:=c2.size;have kz:=c.size;(try (have b2:=z2.box rfl));(try (have zl:=aA Q))))
   all_goals(go_wp2_with fail;go_meet)
   all_goals first
    |with_reducible exact⟨_,_,rfl,rfl,aGx I kz u⟩
    |exact⟨_,_,rfl,rfl,ZY I kz z2 zl x2 u⟩
    |exact⟨_,_,rfl,rfl,ZY I (by simp only[World.size_alloc];omega) z2 (by simp only[World.size_alloc];omega) x2 u⟩
 obtain⟨XH,ch,rfl,rfl,L2,H2,J,N,-,-,-,-,a⟩:=hcut;rename World=>wi;have B4i:=bA (pA B4h.out a);have X0i:=XB0.out.later B4i.out;clear a Ah Sh o;obtain⟨j0,j1,j2,j3,j4,j5,j6,j7,j8,j9,j10,j11,j12,j13,fG,rN⟩:=N.fn.r 37;go_wp2_with fail;refine(H.out.ev _ _ _ N.fn (U.out.later B4i.out)).mono ?_;rintro e wj ⟨rfl,a⟩;have BZ:=bA (pA (pA B4.out B4i.out) a);clear a N;go_wp2;go_ret;exact⟨rfl,BZ.out⟩
end
