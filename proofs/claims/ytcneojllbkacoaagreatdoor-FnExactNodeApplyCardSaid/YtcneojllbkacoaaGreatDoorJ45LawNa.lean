import Derived.Test.YtcneojllbkacoaaGreatDoorJ42STik
import Derived.Laws.CopyOwn
set_option maxRecDepth 100000
set_option maxHeartbeats 16000000
namespace Go.Proofs.YtcneojllbkacoaaGreatDoor
open Go.RowKit
attribute [local go_sem] aOv GB aPz lA.drewI XW.drewI XW.new XW.alloc XW.alloc2
theorem fJ {w w':World}{cs:Array Value}{t:TypeId} (h:Below (w.alloc (.cells cs t)).heap.size (w.alloc (.cells cs t)) w'):lA w' w.heap.size cs t:=(lA.new w cs t).later h
theorem tY {w w':World}{cs:Array Value}{t:TypeId} (h:Below (w.alloc (.cells cs t)).drew.heap.size (w.alloc (.cells cs t)).drew w'):lA w' w.heap.size cs t:=(lA.new w cs t).later ⟨h.os,h.tape,h.output,h.size,h.block⟩
section
variable {wv wf:World}{M:bD}{cs:Array Value}{X L:Nat}
theorem aCu (hF:FN wf M cs) (hz:lA wf X (tD none 0 none 0 bQ) 45) (hx:wv.heap.size≤X) (k:Below wv.heap.size wv wf):lA (wf.setRow X cs) X cs 45∧FN (wf.setRow X cs) M cs∧wv.heap.size≤X∧Below wv.heap.size wv (wf.setRow X cs):=
 ⟨hz.row,hF.store hz (PM _ _ _ _ _) (kQ _ _ _),hx,below_setRow k hx _⟩
theorem aNg (hF:FN wf M cs) (k:Below wv.heap.size wv wf):lA ((wf.alloc (.cells (tD none 0 none 0 bQ) 45)).setRow wf.heap.size cs) wf.heap.size cs 45∧FN ((wf.alloc (.cells (tD none 0 none 0 bQ) 45)).setRow wf.heap.size cs) M cs∧wv.heap.size≤wf.heap.size∧Below wv.heap.size wv ((wf.alloc (.cells (tD none 0 none 0 bQ) 45)).setRow wf.heap.size cs):=
 aCu (hF.later (bA _ _)) (lA.new _ _ _) k.size (rA k (bA _ _))
def NX (wv W:World) (M:bD) (X:Nat) (cs:Array Value):Prop:=∃L H,lA W X cs 45∧AN W (fun x=>L≤x∧x<H) M cs∧wv.heap.size≤L∧H≤W.heap.size∧(X<L∨H≤X)∧wv.heap.size≤X∧Below wv.heap.size wv W
theorem PH (hA:AN wf (fun x=>L≤x∧x<wf.heap.size) M cs) (hL:wv.heap.size≤L) (hz:lA wf X (tD none 0 none 0 bQ) 45) (hX:X<L) (hx:wv.heap.size≤X) (k:Below wv.heap.size wv wf):NX wv (wf.setRow X cs) M X cs:=
 ⟨L,wf.heap.size,hz.row,hA.turned (kQ _ X _) (fun x hx _ e=>by omega),hL,by simp,Or.inl hX,hx,below_setRow k hx _⟩
theorem aJt (hA:AN wf (fun x=>L≤x∧x<wf.heap.size) M cs) (hL:wv.heap.size≤L) (k:Below wv.heap.size wv wf):NX wv ((wf.alloc (.cells (tD none 0 none 0 bQ) 45)).setRow wf.heap.size cs) M wf.heap.size cs:=
 ⟨L,wf.heap.size,lA.row (lA.new _ _ _),(hA.later (bA _ _)).turned (kQ _ wf.heap.size _) (fun x hx _ e=>by omega),hL,by simp,Or.inr (Nat.le_refl _),k.size,below_setRow (rA k (bA _ _)) k.size _⟩
end
theorem aDl {C:World→Prop}{w:World}{zs cs:Array Value}{T:TypeId} (k:∀W,Below w.heap.size w W→lA W w.heap.size cs T→W.heap.size=w.heap.size+1→C W):C ((w.alloc (.cells zs T)).setRow w.heap.size cs):=
 k _ (below_setRow (bA _ _) (Nat.le_refl _) _) (lA.row (lA.new _ _ _)) (by simp)
theorem aPs (c:eC) (T:TypeId):∃cs q0 q1 q2 q3 q4 q5,wG c=.agg cs∧#[q0,q1,q2,q3,q4,q5]=cs∧∀W X,lA W X cs T→W.cell? ⟨X,0,none⟩=some q0∧W.cell? ⟨X,1,none⟩=some q1∧W.cell? ⟨X,2,none⟩=some q2∧W.cell? ⟨X,3,none⟩=some q3∧W.cell? ⟨X,4,none⟩=some q4∧W.cell? ⟨X,5,none⟩=some q5:=
 ⟨_,_,_,_,_,_,_,rfl,rfl,fun _ _ h=>h.c6⟩
def RI (w:World) (v:Value) (rs:List pC):Prop:=∃a cap,v=.slice a rs.length cap∧oE w a rs
def RO (w:World) (g:Nat) (v:Value) (rs:List pC):Prop:=∃cap,v=.slice (some ⟨g,0,none⟩) rs.length cap∧g<w.heap.size∧nQ w g (some ⟨g,0,none⟩) rs
theorem RI.later {w w':World}{v:Value}{rs:List pC} (h:RI w v rs) (hb:Below w.heap.size w w'):RI w' v rs:=by
 obtain ⟨a,cap,e,h⟩:=h;exact ⟨a,cap,e,h.later hb⟩
theorem RO.turned {w w':World}{g:Nat}{v:Value}{rs:List pC}{S:Nat→Prop} (h:RO w g v rs) (ht:dA S w w') (hS:¬S g):RO w' g v rs:=by
 obtain ⟨cap,e,hg,h⟩:=h;refine ⟨cap,e,Nat.lt_of_lt_of_le hg ht.size,?_⟩;rcases h with h | ⟨g',o,cur,t,e',hB,hg,h⟩
 ·exact Or.inl h
 ·cases e'
  have hb:=ht.block g (aA hg) hS;have hk:∀j,w'.cell? ⟨g,j,none⟩=w.cell? ⟨g,j,none⟩:=fun j=>World.cell?_of_block hb;exact Or.inr ⟨g,0,cur,t,rfl,hB,hb.trans hg,fun i hi=>by simp only [hk];exact h i hi⟩
theorem RO.later {w w':World}{g:Nat}{v:Value}{rs:List pC} (h:RO w g v rs) (hb:Below w.heap.size w w'):RO w' g v rs:=h.turned (dA.of (S:=fun _=>False) hb) fun e=>e
theorem RO.lt {w:World}{g:Nat}{v:Value}{rs:List pC} (h:RO w g v rs):g<w.heap.size:=by
 obtain ⟨_,_,h,_⟩:=h;exact h
theorem RO.ri {w:World}{g:Nat}{v:Value}{rs:List pC} (h:RO w g v rs):RI w v rs:=by
 obtain ⟨cap,e,-,h⟩:=h;exact ⟨_,cap,e,h.recs⟩
structure NaC (w:World) (cq cN:Array Value) (rv:Value) (N M:bD) (rs:List pC) (code KM KR QM:Int):Prop where
 tc:∀W,Calls Tryz.prog 7 #[.agg cq] W fun e w'=>e=.returned (.agg cq)∧Below W.heap.size W w'
 tn:∀W,Below w.heap.size w W→Calls Tryz.prog 8 #[.agg cN] W fun e w'=>∃cs,e=.returned (.agg cs)∧AN w' (fun x=>W.heap.size≤x∧x<w'.heap.size) N cs∧Below W.heap.size W w'
 tr:∀W,Below w.heap.size w W→Calls Tryz.prog 9 #[rv] W fun e w'=>∃v,e=.returned v∧RO w' W.heap.size v rs∧Below W.heap.size W w'
 sp:∀W cs v,FN W N cs→RI W v rs→Calls Tryz.prog 6 #[.agg cq,.agg cs,v] W fun e w'=>∃cs,e=.returned (.tuple #[.agg cs,.int .i64 code])∧FN w' M cs∧Below W.heap.size W w'
 im:∀W cs v,FN W N cs→RI W v rs→Below w.heap.size w W→Calls Tryz.prog 10 #[.agg cq,.agg cs,v] W fun e w'=>∃cs,e=.returned (.tuple #[.agg cs,.int .i64 code])∧AN w' (fun x=>W.heap.size≤x∧x<w'.heap.size) M cs∧Below W.heap.size W w'
 en:∀W cs cs',FN W N cs→FN W N cs'→Calls Tryz.prog 11 #[.agg cs,.agg cs'] W fun e w'=>e=.returned (.bool true)∧Below W.heap.size W w'
 ev:∀W cs cs',FN W M cs→FN W M cs'→Calls Tryz.prog 11 #[.agg cs,.agg cs'] W fun e w'=>e=.returned (.bool true)∧Below W.heap.size W w'
 er:∀W v v',RI W v rs→RI W v' rs→Calls Tryz.prog 12 #[v,v'] W fun e w'=>e=.returned (.bool true)∧Below W.heap.size W w'
 mn:∀W A cs,AN W A N cs→(∀x,A x→x<W.heap.size)→Calls Tryz.prog 13 #[.agg cs,.int .i64 1] W fun e w'=>e=.returned (.int .i64 KM)∧dA A W w'
 mr:∀W g v,RO W g v rs→Calls Tryz.prog 14 #[v,.int .i64 KM] W fun e w'=>e=.returned (.int .i64 KR)∧dA (·=g) W w'
 mv:∀W A cs,AN W A M cs→(∀x,A x→x<W.heap.size)→Calls Tryz.prog 13 #[.agg cs,.int .i64 1] W fun e w'=>e=.returned (.int .i64 QM)∧dA A W w'∧HN w' M cs
 hv:∀W cs,HN W M cs→Calls Tryz.prog 15 #[.agg cs,.int .i64 1] W fun e w'=>e=.returned (.int .i64 QM)∧Below W.heap.size W w'
 k0:¬KR<0
 q0:¬QM<0
theorem aJi {w:World}{cq cN:Array Value}{rv:Value}{N M:bD}{rs:List pC}{code KM KR QM s1 s2:Int}{q0 q1 q2 q3 q4 q5 n0 n1 n2 n3 n4 n5 n6 n7 n8 n9 n10 n11 n12 n13:Value} (fq:#[q0,q1,q2,q3,q4,q5]=cq) (rq:∀W X,lA W X cq 23→W.cell? ⟨X,0,none⟩=some q0∧W.cell? ⟨X,1,none⟩=some q1∧W.cell? ⟨X,2,none⟩=some q2∧W.cell? ⟨X,3,none⟩=some q3∧W.cell? ⟨X,4,none⟩=some q4∧W.cell? ⟨X,5,none⟩=some q5)
 (fN:#[n0,n1,n2,n3,n4,n5,n6,n7,n8,n9,n10,n11,n12,n13]=cN) (rN:∀W X,lA W X cN 33→W.cell? ⟨X,0,none⟩=some n0∧W.cell? ⟨X,1,none⟩=some n1∧W.cell? ⟨X,2,none⟩=some n2∧W.cell? ⟨X,3,none⟩=some n3∧W.cell? ⟨X,4,none⟩=some n4∧W.cell? ⟨X,5,none⟩=some n5∧W.cell? ⟨X,6,none⟩=some n6∧W.cell? ⟨X,7,none⟩=some n7∧W.cell? ⟨X,8,none⟩=some n8∧W.cell? ⟨X,9,none⟩=some n9∧W.cell? ⟨X,10,none⟩=some n10∧W.cell? ⟨X,11,none⟩=some n11∧W.cell? ⟨X,12,none⟩=some n12∧W.cell? ⟨X,13,none⟩=some n13)
 (HSZ:Hid (∀W,Below w.heap.size w W→Calls Tryz.prog 4 #[.agg cN,.int .i64 1048576] W fun e w'=>e=.returned (.int .i64 s1)∧Below W.heap.size W w'))
 (HSR:Hid (0≤s1→∀W,Below w.heap.size w W→Calls Tryz.prog 5 #[rv,.int .i64 s1] W fun e w'=>e=.returned (.int .i64 s2)∧Below W.heap.size W w'))
 (HH:Hid (0≤s1→0≤s2→NaC w cq cN rv N M rs code KM KR QM)):
 Calls Tryz.prog 3 #[.agg cq,.agg cN,rv] w fun e w'=>e=.returned (.bool true)∧Below w.heap.size w w':=by
 have fz:=PN;go_enter Tryz.func3,Tryz.ntmps3;go_upto_region 2 with fail;refine aIa (C:=fun W=>Code.wp Tryz.prog _ _ _ W) ?_;intro w0 B0 A0 S0 hz;clear hz;go_wp2_with fail;refine (HSZ.out _ B0).mono ?_;rintro e w1 ⟨rfl,hb⟩;have B1:=iA (rA B0 hb);have A1:=A0.later hb;have S1:=S0.later hb;clear A0 S0 B0 hb HSZ;by_cases h0:s1<0
 ·go_wp2;go_ret;exact ⟨rfl,B1.out⟩
 go_wp2_with fail;refine (HSR.out (by omega) _ B1.out).mono ?_;rintro e w2 ⟨rfl,hb⟩;replace B1:=iA (rA B1.out hb);replace A1:=A1.later hb;replace S1:=S1.later hb;clear hb HSR;by_cases h2:s2<0
 ·go_wp2;go_ret;exact ⟨rfl,B1.out⟩
 have H:=iA (HH.out (by omega) (by omega));clear w1 HH;rename World=>w1;have HK1:=iA (fun w' (h:Below w1.heap.size w1 w')=>show lA w' w.heap.size cq 23∧lA w' (w.heap.size+1) cN 33 from ⟨A1.later h,S1.later h⟩);go_upto_region 8 with fail;go_cut [8,9] (fun p ok wx=>∃X cs,p=.pointer (some ⟨X,0,none⟩)∧ok=.int .i64 code∧lA wx X cs 45∧FN wx M cs∧w1.heap.size≤X∧Below w1.heap.size w1 wx)
 case first=>
  as_aux_lemma=>
   go_region_held3 (fun w'=>lA w' w.heap.size cq 23∧lA w' (w.heap.size+1) cN 33)
    (first | with_reducible exact HK1.out _ k3 | with_reducible exact HK1.out _ k2 | with_reducible exact HK1.out _ k1 | with_reducible exact HK1.out _ k0 | with_reducible exact HK1.out _ (rA k3 (bA _ _)) | with_reducible exact HK1.out _ (rA k2 (bA _ _)) | with_reducible exact HK1.out _ (rA k1 (bA _ _)) | with_reducible exact HK1.out _ (rA k0 (bA _ _)) | with_reducible exact HK1.out _ ((bA _ _).drew) | with_reducible exact HK1.out _ ((Below.refl _ _).drew) | exact HK1.out _ (below_setRow k3 x3 _) | exact HK1.out _ (below_setRow (rA k3 (bA _ _)) k3.size _))
    (first
     | ((fail_if_success (have q:=k0));refine cC (f:=7) (args:=#[.agg cq]) (by rfl) (by go_simp) ?_;refine (H.out.tc _).mono ?_;rintro e u0 ⟨rfl,hb⟩;refine ⟨_,rfl,?_⟩;have k0:Below w1.heap.size w1 u0:=(by with_reducible exact rA ((Below.refl _ _).drew) hb))
     | ((fail_if_success (have q:=k0));refine cC (f:=7) (args:=#[.agg cq]) (by rfl) (by go_simp) ?_;refine (H.out.tc _).mono ?_;rintro e u0 ⟨rfl,hb⟩;refine ⟨_,rfl,?_⟩;have k0:Below w1.heap.size w1 u0:=(by with_reducible exact rA ((bA _ _).drew) hb);have z0:=tY hb;have x0:=Nat.le_refl w1.heap.size)
     | ((fail_if_success (have q:=k1));have q:=k0;clear q;refine cC (f:=8) (args:=#[.agg cN]) (by rfl) (by go_simp) ?_;refine (H.out.tn _ (by with_reducible exact rA B1.out (k0))).mono ?_;rintro e u1 ⟨cs1,rfl,hn,hb⟩;refine ⟨_,rfl,?_⟩;have k1:Below w1.heap.size w1 u1:=(by with_reducible exact rA (k0) hb);(try (have z1:=z0.later hb;have x1:=x0));have n1:=hn.fn)
     | ((fail_if_success (have q:=k1));have q:=k0;clear q;refine cC (f:=8) (args:=#[.agg cN]) (by rfl) (by go_simp) ?_;refine (H.out.tn _ (by with_reducible exact rA B1.out (rA k0 (bA _ _)))).mono ?_;rintro e u1 ⟨cs1,rfl,hn,hb⟩;refine ⟨_,rfl,?_⟩;have k1:Below w1.heap.size w1 u1:=(by with_reducible exact rA (rA k0 (bA _ _)) hb);have z1:=fJ hb;have x1:=k0.size;have n1:=hn.fn)
     | ((fail_if_success (have q:=k2));have q:=k1;clear q;refine cC (f:=9) (args:=#[rv]) (by rfl) (by go_simp) ?_;refine (H.out.tr _ (by with_reducible exact rA B1.out (k1))).mono ?_;rintro e u2 ⟨v1,rfl,hr,hb⟩;refine ⟨_,rfl,?_⟩;have k2:Below w1.heap.size w1 u2:=(by with_reducible exact rA (k1) hb);(try (have z2:=z1.later hb;have x2:=x1));have n2:=n1.later hb;have r2:=hr.ri)
     | ((fail_if_success (have q:=k2));have q:=k1;clear q;refine cC (f:=9) (args:=#[rv]) (by rfl) (by go_simp) ?_;refine (H.out.tr _ (by with_reducible exact rA B1.out (rA k1 (bA _ _)))).mono ?_;rintro e u2 ⟨v1,rfl,hr,hb⟩;refine ⟨_,rfl,?_⟩;have k2:Below w1.heap.size w1 u2:=(by with_reducible exact rA (rA k1 (bA _ _)) hb);have z2:=fJ hb;have x2:=k1.size;have n2:=n1.later (rA (bA _ _) hb);have r2:=hr.ri)
     | ((fail_if_success (have q:=k3));have q:=k2;clear q;refine cC (f:=6) (args:=#[.agg cq,.agg cs1,v1]) (by rfl) (by go_simp) ?_;refine (H.out.sp _ _ _ (by with_reducible exact n2) (by with_reducible exact r2)).mono ?_;rintro e u3 ⟨cs2,rfl,hF,hb⟩;refine ⟨_,rfl,?_⟩;have k3:Below w1.heap.size w1 u3:=(by with_reducible exact rA (k2) hb);(try (have z3:=z2.later hb;have x3:=x2));have c2:=hF.c14;have d2:=c2.size;(try (have b2:=z3.box rfl)))
     | ((fail_if_success (have q:=k3));have q:=k2;clear q;refine cC (f:=6) (args:=#[.agg cq,.agg cs1,v1]) (by rfl) (by go_simp) ?_;refine (H.out.sp _ _ _ (by with_reducible exact n2.later (bA _ _)) (by with_reducible exact r2.later (bA _ _))).mono ?_;rintro e u3 ⟨cs2,rfl,hF,hb⟩;refine ⟨_,rfl,?_⟩;have k3:Below w1.heap.size w1 u3:=(by with_reducible exact rA (rA k2 (bA _ _)) hb);have z3:=fJ hb;have x3:=k2.size;have c2:=hF.c14;have d2:=c2.size;(try (have b2:=z3.box rfl))))
   all_goals (go_wp2_with fail;go_meet)
   all_goals first
    | with_reducible exact ⟨_,_,rfl,rfl,aNg hF k3⟩
    | exact ⟨_,_,rfl,rfl,aCu hF z3 x3 k3⟩
 obtain ⟨X0,c0,rfl,rfl,hbx,hF,hX0,hb⟩:=hcut;rename World=>w4;have XB0:=iA hbx;have FI0:=iA hF;have B4:=iA (rA B1.out hb);have A4:=iA (A1.later hb);have S4:=S1.later hb;have hX04:X0<w4.heap.size:=aA hbx;clear hbx hF hb HK1 A1 S1 B1 hX0;go_wp2_with fail;refine (H.out.tn _ B4.out).mono ?_;rintro e w5 ⟨cx,rfl,hn,hb⟩;have O5:=iA hn;have c5:=hn.fn.c14;have d5:=c5.size;have B45:=iA hb;have h45:=hb.size;replace S4:=iA (S4);clear hn hb;go_upto_region 10 with fail;refine aDl (C:=fun W=>Code.wp Tryz.prog _ _ _ W) ?_;intro w6 hb6 X6 hz6;have HXS:Hid (∃X,X=w5.heap.size):=⟨_,rfl⟩
 obtain ⟨X,hX⟩:=HXS.out;rw [←hX] at X6 ⊢;have B46:=iA (rA B45.out hb6);have B56:=iA hb6;have B6:=iA (rA B4.out B46.out);have X6:=iA X6;have hX5:w5.heap.size≤X:=Nat.le_of_eq hX.symm;have h56:=hb6.size;clear hb6 hz6 hX HXS c5 d5;go_wp2_with fail;refine (H.out.tr _ B6.out).mono ?_;rintro e w7 ⟨vx,rfl,hr,hb⟩;have R7:=iA hr;have RX:=iA hr.ri;have B67:=iA hb;have B7:=iA (rA B6.out hb);have h67:=hb.size;have X7:=X6.out.later hb;have A7:=(A4.out.later B46.out).later hb;have FX:=iA ((O5.out.fn.later B56.out).later hb);clear hr hb;obtain ⟨j0,j1,j2,j3,j4,j5,j6,j7,j8,j9,j10,j11,j12,j13,fX,rX⟩:=FX.out.r 45;have HK7:=iA (fun w' (h:Below w7.heap.size w7 w')=>show lA w' w.heap.size cq 23∧lA w' X cx 45 from ⟨A7.later h,X7.later h⟩);go_upto_region 11 with fail;go_cut [12,13] (fun p ok wx=>∃X cs,p=.pointer (some ⟨X,0,none⟩)∧ok=.int .i64 code∧NX w7 wx M X cs)
 case first=>
  as_aux_lemma=>
   go_region_held3 (fun w'=>lA w' w.heap.size cq 23∧lA w' X cx 45)
    (first | with_reducible exact HK7.out _ k1 | with_reducible exact HK7.out _ k0 | with_reducible exact HK7.out _ (rA k1 (bA _ _)) | with_reducible exact HK7.out _ (rA k0 (bA _ _)) | with_reducible exact HK7.out _ ((bA _ _).drew) | with_reducible exact HK7.out _ ((Below.refl _ _).drew) | exact HK7.out _ (below_setRow k1 x1 _) | exact HK7.out _ (below_setRow (rA k1 (bA _ _)) k1.size _))
    (first
     | ((fail_if_success (have q:=k0));refine cC (f:=7) (args:=#[.agg cq]) (by rfl) (by go_simp) ?_;refine (H.out.tc _).mono ?_;rintro e u0 ⟨rfl,hb⟩;refine ⟨_,rfl,?_⟩;have k0:Below w7.heap.size w7 u0:=(by with_reducible exact rA ((Below.refl _ _).drew) hb))
     | ((fail_if_success (have q:=k0));refine cC (f:=7) (args:=#[.agg cq]) (by rfl) (by go_simp) ?_;refine (H.out.tc _).mono ?_;rintro e u0 ⟨rfl,hb⟩;refine ⟨_,rfl,?_⟩;have k0:Below w7.heap.size w7 u0:=(by with_reducible exact rA ((bA _ _).drew) hb);have z0:=tY hb;have x0:=Nat.le_refl w7.heap.size)
     | ((fail_if_success (have q:=k1));have q:=k0;clear q;refine cC (f:=10) (args:=#[.agg cq,.agg cx,vx]) (by rfl) (by go_simp) ?_;refine (H.out.im _ _ _ (by with_reducible exact FX.out.later (k0)) (by with_reducible exact RX.out.later (k0)) (by with_reducible exact rA B7.out (k0))).mono ?_;rintro e u1 ⟨cs2,rfl,hA,hb⟩;refine ⟨_,rfl,?_⟩;have k1:Below w7.heap.size w7 u1:=(by with_reducible exact rA (k0) hb);(try (have z1:=z0.later hb;have x1:=x0));have c2:=hA.fn.c14;have d2:=c2.size;have kz:=k0.size;(try (have b2:=z1.box rfl));(try (have zl:=aA z0)))
     | ((fail_if_success (have q:=k1));have q:=k0;clear q;refine cC (f:=10) (args:=#[.agg cq,.agg cx,vx]) (by rfl) (by go_simp) ?_;refine (H.out.im _ _ _ (by with_reducible exact FX.out.later (rA k0 (bA _ _))) (by with_reducible exact RX.out.later (rA k0 (bA _ _))) (by with_reducible exact rA B7.out (rA k0 (bA _ _)))).mono ?_;rintro e u1 ⟨cs2,rfl,hA,hb⟩;refine ⟨_,rfl,?_⟩;have k1:Below w7.heap.size w7 u1:=(by with_reducible exact rA (rA k0 (bA _ _)) hb);have z1:=fJ hb;have x1:=k0.size;have c2:=hA.fn.c14;have d2:=c2.size;have kz:=k0.size;(try (have b2:=z1.box rfl));(try (have zl:=aA z0))))
   all_goals (go_wp2_with fail;go_meet)
   all_goals first
    | with_reducible exact ⟨_,_,rfl,rfl,aJt hA kz k1⟩
    | exact ⟨_,_,rfl,rfl,PH hA kz z1 zl x1 k1⟩
    | exact ⟨_,_,rfl,rfl,PH hA (by simp only [World.size_alloc];omega) z1 (by simp only [World.size_alloc];omega) x1 k1⟩
 obtain ⟨XG,cg,rfl,rfl,L1,H1,hbx,hna,hL1,hH1,hXL,hX1,hb⟩:=hcut;rename World=>w8;have XB1:=iA hbx;have NA:=iA hna;have B78:=iA hb;have B48:=iA (rA (rA B46.out B67.out) hb);have X08:=XB0.out.later B48.out;clear hb hna HK7 A7 X7 fX rX j0 j1 j2 j3 j4 j5 j6 j7 j8 j9 j10 j11 j12 j13;obtain ⟨j0,j1,j2,j3,j4,j5,j6,j7,j8,j9,j10,j11,j12,j13,fG,rG⟩:=NA.out.fn.r 45;obtain ⟨i0,i1,i2,i3,i4,i5,i6,i7,i8,i9,i10,i11,i12,i13,f0,r0⟩:=FI0.out.r 45;go_wp2_with fail;refine (H.out.ev _ _ _ NA.out.fn (FI0.out.later B48.out)).mono ?_;rintro e w9 ⟨rfl,hb⟩;have B79:=iA (rA B78.out hb);have B49:=iA (rA B48.out hb);replace NA:=iA (NA.out.later hb);replace XB1:=iA (XB1.out.later hb);have h89:=hb.size;have S9:=S4.out.later B49.out;have X9:=(X6.out.later B67.out).later B79.out;clear hb hbx X08 fG rG j0 j1 j2 j3 j4 j5 j6 j7 j8 j9 j10 j11 j12 j13 f0 r0 i0 i1 i2 i3 i4 i5 i6 i7 i8 i9 i10 i11 i12 i13;obtain ⟨j0,j1,j2,j3,j4,j5,j6,j7,j8,j9,j10,j11,j12,j13,fX,rX⟩:=FX.out.r 45;have HK9:=iA (fun w' (h:Below w9.heap.size w9 w')=>show lA w' X cx 45∧lA w' (w.heap.size+1) cN 33 from ⟨X9.later h,S9.later h⟩);go_upto_region 14 with fail;go_cut [64] (fun s wx=>s=.bool false∧Below w9.heap.size w9 wx)
 case first=>
  as_aux_lemma=>
   go_region_held3 (fun w'=>lA w' X cx 45∧lA w' (w.heap.size+1) cN 33)
    (first | with_reducible exact HK9.out _ k1 | with_reducible exact HK9.out _ k0 | with_reducible exact HK9.out _ ((Below.refl _ _).drew))
    (first
     | ((fail_if_success (have q:=k0));refine cC (f:=8) (args:=#[.agg cN]) (by rfl) (by go_simp) ?_;refine (H.out.tn _ ((rA B4.out B49.out).drew)).mono ?_;rintro e u0 ⟨cs1,rfl,hn,hb⟩;refine ⟨_,rfl,?_⟩;have k0:Below w9.heap.size w9 u0:=(by exact rA (Below.refl _ _).drew hb))
     | (have q:=k0;clear q;refine cC (f:=11) (args:=#[.agg cx,.agg cs1]) (by rfl) (by go_simp) ?_;refine (H.out.en _ _ _ (FX.out.later (rA B79.out k0)) hn.fn).mono ?_;rintro e u1 ⟨rfl,hb⟩;refine ⟨_,rfl,?_⟩;have k1:Below w9.heap.size w9 u1:=(by exact rA k0 hb)))
   all_goals (go_wp2_with fail;go_meet)
   all_goals exact ⟨rfl,k1⟩
 obtain ⟨rfl,hb⟩:=hcut;rename World=>wa;replace B79:=iA (rA B79.out hb);replace B49:=iA (rA B49.out hb);replace NA:=iA (NA.out.later hb);replace XB1:=iA (XB1.out.later hb);have h9a:=hb.size;clear hb HK9 X9 S9;go_wp2_with fail;refine (H.out.tr _ (rA B4.out B49.out)).mono ?_;rintro e wb ⟨vy,rfl,hr,hb⟩;replace B79:=iA (rA B79.out hb);replace B49:=iA (rA B49.out hb);replace NA:=iA (NA.out.later hb);replace XB1:=iA (XB1.out.later hb);have hab:=hb.size;clear hb;go_wp2_with fail;refine (H.out.er _ _ _ (RX.out.later B79.out) hr.ri).mono ?_;rintro e wc ⟨rfl,hb⟩;replace B79:=iA (rA B79.out hb);replace B49:=iA (rA B49.out hb);replace NA:=iA (NA.out.later hb);replace XB1:=iA (XB1.out.later hb);have hbc:=hb.size;have X9:=(X6.out.later B67.out).later B79.out;have h5c:=(rA B56.out (rA B67.out B79.out)).size;have h57:=(rA B56.out B67.out).size;have hg7:=R7.out.lt;clear hb hr;go_wp2_with fail;refine (H.out.mn _ _ _ (O5.out.later (rA B56.out (rA B67.out B79.out))) (fun x hx=>by omega)).mono ?_;rintro e wd ⟨rfl,ht⟩;have B4d:=iA (B49.out.trans (ht.below B49.out.size fun i hi e=>by omega));replace NA:=iA (NA.out.turned ht (fun x hx _ e=>by omega));replace XB1:=iA (ht.blk XB1.out (by omega));have Rd:=iA ((R7.out.later B79.out).turned ht (by omega));have hcd:=ht.size;clear ht X9 fX rX j0 j1 j2 j3 j4 j5 j6 j7 j8 j9 j10 j11 j12 j13;go_wp2_with fail;refine (H.out.mr _ _ _ Rd.out).mono ?_;rintro e we ⟨rfl,ht⟩;have B4e:=iA (B4d.out.trans (ht.below B4d.out.size fun i hi e=>by omega));replace NA:=iA (NA.out.turned ht (fun x hx _ e=>by omega));have XGe:=ht.blk XB1.out (by omega);have X0e:=XB0.out.later B4e.out;have hde:=ht.size;have KR0:=H.out.k0;have QM0:=H.out.q0;clear ht Rd B4d;obtain ⟨j0,j1,j2,j3,j4,j5,j6,j7,j8,j9,j10,j11,j12,j13,fG,rG⟩:=NA.out.fn.r 45;obtain ⟨i0,i1,i2,i3,i4,i5,i6,i7,i8,i9,i10,i11,i12,i13,f0,r0⟩:=FI0.out.r 45;go_wp2_with fail;refine (H.out.ev _ _ _ NA.out.fn (FI0.out.later B4e.out)).mono ?_;rintro e wf ⟨rfl,hb⟩;have B4f:=iA (rA B4e.out hb);replace NA:=iA (NA.out.later hb);replace XGe:=XGe.later hb;have hef:=hb.size;clear hb X0e;go_wp2_with fail;refine (H.out.mv _ _ _ NA.out (fun x hx=>by omega)).mono ?_;rintro e wg ⟨rfl,ht,hh⟩;have B4g:=iA (B4f.out.trans (ht.below B4f.out.size fun i hi e=>by omega));replace XGe:=ht.blk XGe (by omega);replace hh:=iA hh;clear ht B4f B4e;go_wp2_with fail;refine (H.out.hv _ _ hh.out).mono ?_;rintro e wh ⟨rfl,hb⟩;have B4h:=iA (rA B4g.out hb);have Bh:=iA (rA B4.out B4h.out);have Ah:=A4.out.later B4h.out;have Sh:=S4.out.later B4h.out;clear hb hh XGe B4g;have HKh:=iA (fun w' (h:Below wh.heap.size wh w')=>show lA w' w.heap.size cq 23∧lA w' (w.heap.size+1) cN 33 from ⟨Ah.later h,Sh.later h⟩);clear hXL hL1 hH1 hX1 h56 hX5 hg7 h57 h5c hbc hab h9a h89 hcd hde hef h67 h45 fG rG j0 j1 j2 j3 j4 j5 j6 j7 j8 j9 j10 j11 j12 j13;go_upto_region 31 with fail;go_cut [17,18] (fun p ok wx=>∃X cs,p=.pointer (some ⟨X,0,none⟩)∧ok=.int .i64 code∧NX wh wx M X cs)
 case first=>
  as_aux_lemma=>
   go_region_held3 (fun w'=>lA w' w.heap.size cq 23∧lA w' (w.heap.size+1) cN 33)
    (first | with_reducible exact HKh.out _ k3 | with_reducible exact HKh.out _ k2 | with_reducible exact HKh.out _ k1 | with_reducible exact HKh.out _ k0 | with_reducible exact HKh.out _ (rA k3 (bA _ _)) | with_reducible exact HKh.out _ (rA k2 (bA _ _)) | with_reducible exact HKh.out _ (rA k1 (bA _ _)) | with_reducible exact HKh.out _ (rA k0 (bA _ _)) | with_reducible exact HKh.out _ ((bA _ _).drew) | with_reducible exact HKh.out _ ((Below.refl _ _).drew) | exact HKh.out _ (below_setRow k3 x3 _) | exact HKh.out _ (below_setRow (rA k3 (bA _ _)) k3.size _))
    (first
     | ((fail_if_success (have q:=k0));refine cC (f:=7) (args:=#[.agg cq]) (by rfl) (by go_simp) ?_;refine (H.out.tc _).mono ?_;rintro e u0 ⟨rfl,hb⟩;refine ⟨_,rfl,?_⟩;have k0:Below wh.heap.size wh u0:=(by with_reducible exact rA ((Below.refl _ _).drew) hb))
     | ((fail_if_success (have q:=k0));refine cC (f:=7) (args:=#[.agg cq]) (by rfl) (by go_simp) ?_;refine (H.out.tc _).mono ?_;rintro e u0 ⟨rfl,hb⟩;refine ⟨_,rfl,?_⟩;have k0:Below wh.heap.size wh u0:=(by with_reducible exact rA ((bA _ _).drew) hb);have z0:=tY hb;have x0:=Nat.le_refl wh.heap.size)
     | ((fail_if_success (have q:=k1));have q:=k0;clear q;refine cC (f:=8) (args:=#[.agg cN]) (by rfl) (by go_simp) ?_;refine (H.out.tn _ (by with_reducible exact rA Bh.out (k0))).mono ?_;rintro e u1 ⟨cs1,rfl,hn,hb⟩;refine ⟨_,rfl,?_⟩;have k1:Below wh.heap.size wh u1:=(by with_reducible exact rA (k0) hb);(try (have z1:=z0.later hb;have x1:=x0));have n1:=hn.fn)
     | ((fail_if_success (have q:=k1));have q:=k0;clear q;refine cC (f:=8) (args:=#[.agg cN]) (by rfl) (by go_simp) ?_;refine (H.out.tn _ (by with_reducible exact rA Bh.out (rA k0 (bA _ _)))).mono ?_;rintro e u1 ⟨cs1,rfl,hn,hb⟩;refine ⟨_,rfl,?_⟩;have k1:Below wh.heap.size wh u1:=(by with_reducible exact rA (rA k0 (bA _ _)) hb);have z1:=fJ hb;have x1:=k0.size;have n1:=hn.fn)
     | ((fail_if_success (have q:=k2));have q:=k1;clear q;refine cC (f:=9) (args:=#[rv]) (by rfl) (by go_simp) ?_;refine (H.out.tr _ (by with_reducible exact rA Bh.out (k1))).mono ?_;rintro e u2 ⟨v1,rfl,hr,hb⟩;refine ⟨_,rfl,?_⟩;have k2:Below wh.heap.size wh u2:=(by with_reducible exact rA (k1) hb);(try (have z2:=z1.later hb;have x2:=x1));have n2:=n1.later hb;have r2:=hr.ri)
     | ((fail_if_success (have q:=k2));have q:=k1;clear q;refine cC (f:=9) (args:=#[rv]) (by rfl) (by go_simp) ?_;refine (H.out.tr _ (by with_reducible exact rA Bh.out (rA k1 (bA _ _)))).mono ?_;rintro e u2 ⟨v1,rfl,hr,hb⟩;refine ⟨_,rfl,?_⟩;have k2:Below wh.heap.size wh u2:=(by with_reducible exact rA (rA k1 (bA _ _)) hb);have z2:=fJ hb;have x2:=k1.size;have n2:=n1.later (rA (bA _ _) hb);have r2:=hr.ri)
     | ((fail_if_success (have q:=k3));have q:=k2;clear q;refine cC (f:=10) (args:=#[.agg cq,.agg cs1,v1]) (by rfl) (by go_simp) ?_;refine (H.out.im _ _ _ (by with_reducible exact n2) (by with_reducible exact r2) (by with_reducible exact rA Bh.out (k2))).mono ?_;rintro e u3 ⟨cs2,rfl,hA,hb⟩;refine ⟨_,rfl,?_⟩;have k3:Below wh.heap.size wh u3:=(by with_reducible exact rA (k2) hb);(try (have z3:=z2.later hb;have x3:=x2));have c2:=hA.fn.c14;have d2:=c2.size;have kz:=k2.size;(try (have b2:=z3.box rfl));(try (have zl:=aA z2)))
     | ((fail_if_success (have q:=k3));have q:=k2;clear q;refine cC (f:=10) (args:=#[.agg cq,.agg cs1,v1]) (by rfl) (by go_simp) ?_;refine (H.out.im _ _ _ (by with_reducible exact n2.later (bA _ _)) (by with_reducible exact r2.later (bA _ _)) (by with_reducible exact rA Bh.out (rA k2 (bA _ _)))).mono ?_;rintro e u3 ⟨cs2,rfl,hA,hb⟩;refine ⟨_,rfl,?_⟩;have k3:Below wh.heap.size wh u3:=(by with_reducible exact rA (rA k2 (bA _ _)) hb);have z3:=fJ hb;have x3:=k2.size;have c2:=hA.fn.c14;have d2:=c2.size;have kz:=k2.size;(try (have b2:=z3.box rfl));(try (have zl:=aA z2))))
   all_goals (go_wp2_with fail;go_meet)
   all_goals first
    | with_reducible exact ⟨_,_,rfl,rfl,aJt hA kz k3⟩
    | exact ⟨_,_,rfl,rfl,PH hA kz z3 zl x3 k3⟩
    | exact ⟨_,_,rfl,rfl,PH hA (by simp only [World.size_alloc];omega) z3 (by simp only [World.size_alloc];omega) x3 k3⟩
 obtain ⟨XH,ch,rfl,rfl,L2,H2,hbx,hna,-,-,-,-,hb⟩:=hcut;rename World=>wi;have B4i:=iA (rA B4h.out hb);have X0i:=XB0.out.later B4i.out;clear hb Ah Sh HKh;obtain ⟨j0,j1,j2,j3,j4,j5,j6,j7,j8,j9,j10,j11,j12,j13,fG,rG⟩:=hna.fn.r 45;go_wp2_with fail;refine (H.out.ev _ _ _ hna.fn (FI0.out.later B4i.out)).mono ?_;rintro e wj ⟨rfl,hb⟩;have BZ:=iA (rA (rA B4.out B4i.out) hb);clear hb hna;go_wp2;go_ret;exact ⟨rfl,BZ.out⟩
end Go.Proofs.YtcneojllbkacoaaGreatDoor
