import Derived.Test.YtcneojllbkacoaaGreatDoorJ42STik
set_option maxRecDepth 100000
set_option maxHeartbeats 4000000
namespace Go.Proofs.YtcneojllbkacoaaGreatDoor
open Go.RowKit
def aQb (n:Nat) (W4 wx:World) (K:cE) (L:fF) (s:Value):Prop:=
 ∃(P D B:Nat) (v:Value),s=.pointer (some ⟨P,0,none⟩)∧n+4≤P∧n+4≤B∧qY wx P D L∧dB wx B D K.fs K.c K.k K.cr K.fl K.dn v∧Below W4.heap.size W4 wx
theorem lA.four {w:World}{b:Nat}{v0 v1 v2 v3:Value}{t:TypeId} (h:lA w b #[v0,v1,v2,v3] t):w.cell? ⟨b,0,none⟩=some v0∧w.cell? ⟨b,1,none⟩=some v1∧w.cell? ⟨b,2,none⟩=some v2∧w.cell? ⟨b,3,none⟩=some v3:=by
 simp [h.cell]
theorem dB.set_low {w:World}{B D:Nat}{fs:List eA}{c k cr fl:Int}{dn:Bool}{v:Value} (h:dB w B D fs c k cr fl dn v){P:Nat} (hP:P<B) (j:Nat) (x:Value):dB (w.setCell ⟨P,j,none⟩ x) B D fs c k cr fl dn v:=by
 have hk:=(oC.refl (fun k=>k=P) w).setCell (g:=P) rfl j x;have hD:=h.from';refine ⟨h.from',h.blk.keeps hk (by omega),iZ h.row hk (fun g hg e=>?_),h.apart⟩;have:=lH h.row g hg;omega
theorem aNo {w:World}{P D:Nat}{L:fF}{z0 z1 z2 z3:Value} (h:lA w P #[z0,z1,z2,z3] 128):
 qY ((((w.setCell ⟨P,0,none⟩ (.pointer (some ⟨D,0,none⟩))).setCell ⟨P,1,none⟩ (.int .i64 L.first)).setCell ⟨P,2,none⟩ (.int .i64 L.last)).setCell ⟨P,3,none⟩ (.int .i64 L.size)) P D L:=by
 have h4:=(((h.set 0 (.pointer (some ⟨D,0,none⟩))).set 1 (.int .i64 L.first)).set 2 (.int .i64 L.last)).set 3 (.int .i64 L.size);show lA _ _ _ _;simpa using h4
theorem eN {w:World}{b g j:Nat}{cur:Array Value}{t:TypeId}{x:Value} (h:lA w b cur t) (hne:b≠g):lA (w.setCell ⟨g,j,none⟩ x) b cur t:=(Below.heap_setCell _ _ _ b (fun e=>hne e)).trans h
theorem lA.setO {w:World}{b g:Nat}{cur:Array Value}{t:TypeId} (h:lA w b cur t) (hne:b≠g) (j:Nat) (x:Value):lA (w.setCell ⟨g,j,none⟩ x) b cur t:=eN h hne
def KP (n P D:Nat) (L2 L:fF) (W:World):Prop:=qY W P D L2∧lA W (n+1) #[.int .i64 L.first,.int .i64 L.last,.int .i64 L.size] 40
theorem KP.later {n P D:Nat}{L2 L:fF}{W W':World} (h:KP n P D L2 L W) (hb:Below W.heap.size W W'):KP n P D L2 L W':=⟨h.1.later hb,h.2.later hb⟩
theorem KP.drew {n P D:Nat}{L2 L:fF}{W:World} (h:KP n P D L2 L W):KP n P D L2 L W.drew:=h.later (Below.refl _ _).drew
theorem KP.set {n P D g j:Nat}{L2 L:fF}{W:World}{x:Value} (h:KP n P D L2 L W) (h1:P≠g) (h2:n+1≠g):KP n P D L2 L (W.setCell ⟨g,j,none⟩ x):=⟨eN h.1 h1,eN h.2 h2⟩
theorem KP.cells {n P D:Nat}{L2 L:fF}{W:World} (h:KP n P D L2 L W):W.cell? ⟨P,0,none⟩=some (.pointer (some ⟨D,0,none⟩))∧W.cell? ⟨P,1,none⟩=some (.int .i64 L2.first)∧W.cell? ⟨P,2,none⟩=some (.int .i64 L2.last)∧W.cell? ⟨P,3,none⟩=some (.int .i64 L2.size)∧W.cell? ⟨n+1,0,none⟩=some (.int .i64 L.first)∧W.cell? ⟨n+1,1,none⟩=some (.int .i64 L.last)∧W.cell? ⟨n+1,2,none⟩=some (.int .i64 L.size):=by
 obtain ⟨a,b,c,d⟩:=h.1.cells;obtain ⟨x,y,z⟩:=h.2.three;exact ⟨a,b,c,d,x,y,z⟩
def yJ (n:Nat) (w8:World) (v0 v1 v2 v3 v4 v5 x0 x1 x2:Value):World:=
 (((((((((w8.setCell ⟨n+1+1,0,none⟩ v0).setCell ⟨n+1+1,1,none⟩ v1).setCell ⟨n+1+1,2,none⟩ v2).setCell ⟨n+1+1,3,none⟩ v3).setCell ⟨n+1+1,4,none⟩ v4).setCell ⟨n+1+1,5,none⟩ v5).setCell ⟨n+1+1+1,0,none⟩ x0).setCell ⟨n+1+1+1,1,none⟩ x1).setCell ⟨n+1+1+1,2,none⟩ x2)
theorem xY {n:Nat}{w8:World}{z0 z1 z2 z3 z4 z5 y0 y1 y2 v0 v1 v2 v3 v4 v5 x0 x1 x2:Value}{t u:TypeId} (hz:lA w8 (n+1+1) #[z0,z1,z2,z3,z4,z5] t) (hy:lA w8 (n+1+1+1) #[y0,y1,y2] u):
 lA (yJ n w8 v0 v1 v2 v3 v4 v5 x0 x1 x2) (n+1+1) #[v0,v1,v2,v3,v4,v5] t∧lA (yJ n w8 v0 v1 v2 v3 v4 v5 x0 x1 x2) (n+1+1+1) #[x0,x1,x2] u:=by
 constructor
 ·exact eN (eN (eN (fW hz) (by omega)) (by omega)) (by omega)
 ·have h1:=(((((((hy.setO (g:=n+1+1) (by omega) 0 v0).setO (g:=n+1+1) (by omega) 1 v1).setO (g:=n+1+1) (by omega) 2 v2).setO (g:=n+1+1) (by omega) 3 v3).setO (g:=n+1+1) (by omega) 4 v4).setO (g:=n+1+1) (by omega) 5 v5).set 0 x0).set 1 x1;have h2:=h1.set 2 x2;show lA (yJ n w8 v0 v1 v2 v3 v4 v5 x0 x1 x2) _ _ _;simpa [yJ] using h2
theorem zU {n B:Nat}{w w8:World}{v0 v1 v2 v3 v4 v5 x0 x1 x2:Value} (h:Below B w w8) (hB:B≤n):Below B w (yJ n w8 v0 v1 v2 v3 v4 v5 x0 x1 x2):=by
 unfold yJ;iterate 9 (refine Below.setCell ?_ (by show B≤_;first | exact (by simp only;omega) | omega) _)
 exact h
theorem EU {n B:Nat}{w8:World}{a:Option Addr}{fs:List eA}{v0 v1 v2 v3 v4 v5 x0 x1 x2:Value} (h:yE w8 B a fs) (hB:n+4≤B):yE (yJ n w8 v0 v1 v2 v3 v4 v5 x0 x1 x2) B a fs:=by
 unfold yJ;iterate 9 (refine yE.set_below ?_ (by show _<B;first | exact (by simp only;omega) | omega) _)
 exact h
theorem TU (a:Option Addr) (cap:Nat) (K:cE) (L:fF) (p:ByteArray) (most:Int) (w:World) (hpow:gM w) (hf:kA w a K.fs) (hfit:IL K.fs) (hp:p.size≤1100000):
 Calls Tryz.prog 36 #[.agg #[.slice a K.fs.length cap,.int .i64 K.c,.int .i64 K.k,.int .i64 K.cr,.int .i64 K.fl,.bool K.dn],.agg #[.int .i64 L.first,.int .i64 L.last,.int .i64 L.size],.string p,.int .i64 most] w fun e w'=>
  ∃a' cap',e=.returned (.tuple #[.agg #[.slice a' (yC K L p most).1.fs.length cap',.int .i64 (yC K L p most).1.c,.int .i64 (yC K L p most).1.k,.int .i64 (yC K L p most).1.cr,.int .i64 (yC K L p most).1.fl,.bool (yC K L p most).1.dn],.agg #[.int .i64 (yC K L p most).2.1.first,.int .i64 (yC K L p most).2.1.last,.int .i64 (yC K L p most).2.1.size],.int .i64 (yC K L p most).2.2])∧
   yE w' w.heap.size a' (yC K L p most).1.fs∧Below w.heap.size w w':=by
 have HF:Hid (kA w a K.fs):=hf;have hlen:=hfit.len;have HS:Hid _:=hfit;have HPW:Hid (gM w):=hpow;clear hf hfit hpow;go_enter Tryz.func36,Tryz.ntmps36;go_upto_region 1 with fail;obtain ⟨hA,hL,hR,hR2,hb4⟩:=LB (w:=w) (x:=#[.slice a K.fs.length cap,.int .i64 K.c,.int .i64 K.k,.int .i64 K.cr,.int .i64 K.fl,.bool K.dn]) (tx:=39) (y:=#[.int .i64 L.first,.int .i64 L.last,.int .i64 L.size]) (ty:=40) (z:=#[.slice none 0 0,.int .i64 0,.int .i64 0,.int .i64 0,.int .i64 0,.bool false]) (tz:=39) (u:=#[.int .i64 0,.int .i64 0,.int .i64 0]) (tu:=40) (Below.refl _ _);have hsz:((((w.alloc (.cells #[.slice a K.fs.length cap,.int .i64 K.c,.int .i64 K.k,.int .i64 K.cr,.int .i64 K.fl,.bool K.dn] 39)).alloc (.cells #[.int .i64 L.first,.int .i64 L.last,.int .i64 L.size] 40)).alloc (.cells #[.slice none 0 0,.int .i64 0,.int .i64 0,.int .i64 0,.int .i64 0,.bool false] 39)).alloc (.cells #[.int .i64 0,.int .i64 0,.int .i64 0] 40)).heap.size=w.heap.size+4:=by simp
 generalize ((((w.alloc (.cells #[.slice a K.fs.length cap,.int .i64 K.c,.int .i64 K.k,.int .i64 K.cr,.int .i64 K.fl,.bool K.dn] 39)).alloc (.cells #[.int .i64 L.first,.int .i64 L.last,.int .i64 L.size] 40)).alloc (.cells #[.slice none 0 0,.int .i64 0,.int .i64 0,.int .i64 0,.int .i64 0,.bool false] 39)).alloc (.cells #[.int .i64 0,.int .i64 0,.int .i64 0] 40))=W4 at *;have HBX:Hid (∀wx,Below W4.heap.size W4 wx→lA wx w.heap.size #[.slice a K.fs.length cap,.int .i64 K.c,.int .i64 K.k,.int .i64 K.cr,.int .i64 K.fl,.bool K.dn] 39∧lA wx (w.heap.size+1) #[.int .i64 L.first,.int .i64 L.last,.int .i64 L.size] 40∧lA wx (w.heap.size+1+1) #[.slice none 0 0,.int .i64 0,.int .i64 0,.int .i64 0,.int .i64 0,.bool false] 39∧lA wx (w.heap.size+1+1+1) #[.int .i64 0,.int .i64 0,.int .i64 0] 40∧Below w.heap.size w wx):=fun wx h=>⟨hA.later h,hL.later h,hR.later h,hR2.later h,rA hb4 h⟩
 have HK:Hid (∀wx,Below W4.heap.size W4 wx→wx.cell? ⟨w.heap.size,0,none⟩=some (.slice a K.fs.length cap)∧wx.cell? ⟨w.heap.size,1,none⟩=some (.int .i64 K.c)∧wx.cell? ⟨w.heap.size,2,none⟩=some (.int .i64 K.k)∧wx.cell? ⟨w.heap.size,3,none⟩=some (.int .i64 K.cr)∧wx.cell? ⟨w.heap.size,4,none⟩=some (.int .i64 K.fl)∧wx.cell? ⟨w.heap.size,5,none⟩=some (.bool K.dn)∧wx.cell? ⟨w.heap.size+1,0,none⟩=some (.int .i64 L.first)∧wx.cell? ⟨w.heap.size+1,1,none⟩=some (.int .i64 L.last)∧wx.cell? ⟨w.heap.size+1,2,none⟩=some (.int .i64 L.size)):=fun wx h=>by
  obtain ⟨a0,a1,a2,a3,a4,a5⟩:=(hA.later h).six;obtain ⟨b0,b1,b2⟩:=(hL.later h).three;exact ⟨a0,a1,a2,a3,a4,a5,b0,b1,b2⟩
 have HF4:Hid _:=fun wx (h:Below W4.heap.size W4 wx)=>HF.out.later (rA hb4 h);have HSZ:Hid _:=hsz;clear hA hL hR hR2 hb4 hsz;go_cut [11] (fun s wx=>aQb w.heap.size W4 wx K L s)
 case first=>
  go_region_held3 (fun wx=>wx.cell? ⟨w.heap.size,0,none⟩=some (.slice a K.fs.length cap)∧wx.cell? ⟨w.heap.size,1,none⟩=some (.int .i64 K.c)∧wx.cell? ⟨w.heap.size,2,none⟩=some (.int .i64 K.k)∧wx.cell? ⟨w.heap.size,3,none⟩=some (.int .i64 K.cr)∧wx.cell? ⟨w.heap.size,4,none⟩=some (.int .i64 K.fl)∧wx.cell? ⟨w.heap.size,5,none⟩=some (.bool K.dn)∧wx.cell? ⟨w.heap.size+1,0,none⟩=some (.int .i64 L.first)∧wx.cell? ⟨w.heap.size+1,1,none⟩=some (.int .i64 L.last)∧wx.cell? ⟨w.heap.size+1,2,none⟩=some (.int .i64 L.size))
   (exact HK.out _ (by repeat (first | with_reducible refine Below.setCell ?_ (by exact Nat.le_refl _) _ | with_reducible exact Below.refl _ _ | with_reducible refine rA ?_ (bA _ _) | with_reducible refine Below.drew ?_ | exact (Below.refl _ _).drew | refine rA ?_ (by assumption))))
   (first
   | (go_at_call 78;refine (aGa a cap K.fs K.c K.k K.cr K.fl K.dn _ (HF4.out _ (by repeat (first | with_reducible exact Below.refl _ _ | with_reducible refine rA ?_ (bA _ _) | with_reducible refine Below.drew ?_ | exact (Below.refl _ _).drew | refine rA ?_ (by assumption)))) (by omega)).mono ?_;rintro e w7 ⟨D,v,rfl,hd7,hb7⟩;(try (have hz:lA w7 W4.heap.size _ _:=pO hb7;obtain ⟨q0,q1,q2,q3⟩:=hz.four;have f0:=hz.free 0;have f1:=hz.free 1;have f2:=hz.free 2;have f3:=hz.free 3))))
  all_goals (go_wp2_with fail;go_meet)
  ·have hs4:=HSZ.out;have hbx:=rA (Below.refl _ _).drew hb7;have hb8:Below W4.heap.size W4 (w7.alloc (.cells #[.pointer (some ⟨D,0,none⟩),.int .i64 L.first,.int .i64 L.last,.int .i64 L.size] 128)):=rA hbx (bA _ _);refine ⟨w7.heap.size,D,W4.heap.size,v,rfl,?_,?_,heap_alloc_new _ _,hd7.later (bA _ _),hb8⟩
   ·have:=hbx.size;omega
   ·omega
  ·have hs4:=HSZ.out;have hz:lA w7 W4.heap.size _ _:=pO hb7;have hb8:Below W4.heap.size W4 ((((w7.setCell ⟨W4.heap.size,0,none⟩ (.pointer (some ⟨D,0,none⟩))).setCell ⟨W4.heap.size,1,none⟩ (.int .i64 L.first)).setCell ⟨W4.heap.size,2,none⟩ (.int .i64 L.last)).setCell ⟨W4.heap.size,3,none⟩ (.int .i64 L.size)):=by
    iterate 4 (refine Below.setCell ?_ (by exact Nat.le_refl _) _)
    exact rA (rA (Below.refl _ _) (bA _ _)).drew hb7
   refine ⟨W4.heap.size,D,W4.heap.size+1,v,rfl,by omega,by omega,aNo hz,?_,hb8⟩;have hd8:dB w7 (W4.heap.size+1) D K.fs K.c K.k K.cr K.fl K.dn v:=by
    have h9:=hd7;simpa using h9
   exact (((hd8.set_low (by omega) 0 _).set_low (by omega) 1 _).set_low (by omega) 2 _).set_low (by omega) 3 _
 obtain ⟨P,D,B,v,rfl,hP,hB,hwr,hdr,hb5⟩:=hcut;obtain ⟨hA,hL,hR,hR2,hbl⟩:=HBX.out _ hb5;clear HK;rename World=>W5;obtain ⟨a4,cap4,rfl,hown⟩:=kF hdr.row;have HM:Hid (dB W5 B D K.fs K.c K.k K.cr K.fl K.dn (.slice a4 K.fs.length cap4)∧lA W5 w.heap.size #[.slice a K.fs.length cap,.int .i64 K.c,.int .i64 K.k,.int .i64 K.cr,.int .i64 K.fl,.bool K.dn] 39∧lA W5 (w.heap.size+1+1) #[.slice none 0 0,.int .i64 0,.int .i64 0,.int .i64 0,.int .i64 0,.bool false] 39∧lA W5 (w.heap.size+1+1+1) #[.int .i64 0,.int .i64 0,.int .i64 0] 40∧Below w.heap.size w W5∧yE W5 B a4 K.fs):=⟨hdr,hA,hR,hR2,hbl,hown⟩
 have HKP:Hid (KP w.heap.size P D L L W5):=⟨hwr,hL⟩
 have HB5:Hid _:=hb5;clear hwr hdr hA hL hR hR2 hbl hown hb5;go_wp2_with fail;refine (aAm P D L p most _ HKP.out.1 hp).mono ?_;rintro e w6 ⟨rfl,hb6⟩;have H6:Hid (dB w6 B D K.fs K.c K.k K.cr K.fl K.dn (.slice a4 K.fs.length cap4)∧lA w6 w.heap.size #[.slice a K.fs.length cap,.int .i64 K.c,.int .i64 K.k,.int .i64 K.cr,.int .i64 K.fl,.bool K.dn] 39∧lA w6 (w.heap.size+1+1) #[.slice none 0 0,.int .i64 0,.int .i64 0,.int .i64 0,.int .i64 0,.bool false] 39∧lA w6 (w.heap.size+1+1+1) #[.int .i64 0,.int .i64 0,.int .i64 0] 40∧Below w.heap.size w w6∧yE w6 B a4 K.fs):=⟨HM.out.1.later hb6,HM.out.2.1.later hb6,HM.out.2.2.1.later hb6,HM.out.2.2.2.1.later hb6,rA HM.out.2.2.2.2.1 hb6,HM.out.2.2.2.2.2.later hb6⟩
 have HKP6:Hid (KP w.heap.size P D L L w6):=HKP.out.later hb6;have HB6:Hid _:=rA HB5.out hb6;clear hb6 HM HKP HB5;by_cases h0:bM L p most=0
 ·obtain ⟨EA,hlb,hz60,hn9⟩:=RT (K:=K) h0;have E0:Hid _:=EA;rw [h0];simp only [aMc,xF];obtain ⟨d0,d1,d2,d3,d4,d5⟩:=H6.out.2.1.six;have hlm:K.fs.length≤maxLen:=by unfold maxLen;omega
  cases hdv:sD K.fs K.c K.k K.cr K.fl with
  | false=>
    have E:Hid (yC K L p most=(⟨[],0,0,0,0,false⟩,L,6)):=by show _=_;rw [E0.out,aHy hdv]
    have HV:Hid (∀W,kA W a K.fs→Calls Tryz.prog 82 #[.agg #[.slice a K.fs.length cap,.int .i64 K.c,.int .i64 K.k,.int .i64 K.cr,.int .i64 K.fl,.bool K.dn]] W fun e w'=>e=.returned (.bool false)∧Below W.heap.size W w'):=fun W h=>yW hdv W h HS.out.short hlm HS.out.sum;clear hdv EA h0 hn9;go_wp2_with fail;refine (HV.out _ (HF4.out _ HB6.out)).mono ?_;rintro e w7 ⟨rfl,hb7⟩;have hz:=H6.out.2.2.1.later hb7;have hy:=H6.out.2.2.2.1.later hb7;have H7:Hid _:=rA H6.out.2.2.2.2.1 hb7;obtain ⟨_,_,_,_,l0,l1,l2⟩:=(HKP6.out.later hb7).cells;obtain ⟨r0,r1,r2,r3,r4,r5⟩:=hz.six;obtain ⟨y0,y1,y2⟩:=hy.three;have f0:=hz.free 0;have f1:=hz.free 1;have f2:=hz.free 2;have f3:=hz.free 3;have f4:=hz.free 4;have f5:=hz.free 5;have g0:=hy.free 0;have g1:=hy.free 1;have g2:=hy.free 2;clear hb7 d0 d1 d2 d3 d4 d5;go_wp2_with fail;go_region
    obtain ⟨hzF,hyF⟩:=xY (v0:=.slice none 0 0) (v1:=.int .i64 0) (v2:=.int .i64 0) (v3:=.int .i64 0) (v4:=.int .i64 0) (v5:=.bool false) (x0:=.int .i64 L.first) (x1:=.int .i64 L.last) (x2:=.int .i64 L.size) hz hy;have HFB:Hid (Below w.heap.size w (yJ w.heap.size w7 (.slice none 0 0) (.int .i64 0) (.int .i64 0) (.int .i64 0) (.int .i64 0) (.bool false) (.int .i64 L.first) (.int .i64 L.last) (.int .i64 L.size))):=zU H7.out (Nat.le_refl _);obtain ⟨s0,s1,s2,s3,s4,s5⟩:=hzF.six;obtain ⟨t0,t1,t2⟩:=hyF.three;clear hz hy r0 r1 r2 r3 r4 r5 y0 y1 y2 f0 f1 f2 f3 f4 f5 g0 g1 g2 l0 l1 l2 hzF hyF;change Exit.then _ _ Exit.normal _ (yJ w.heap.size w7 (.slice none 0 0) (.int .i64 0) (.int .i64 0) (.int .i64 0) (.int .i64 0) (.bool false) (.int .i64 L.first) (.int .i64 L.last) (.int .i64 L.size)).drew;generalize yJ w.heap.size w7 (.slice none 0 0) (.int .i64 0) (.int .i64 0) (.int .i64 0) (.int .i64 0) (.bool false) (.int .i64 L.first) (.int .i64 L.last) (.int .i64 L.size)=W9 at *;go_wp2;refine bodyPost_ret (v:=.tuple #[.agg #[.slice none 0 0,.int .i64 0,.int .i64 0,.int .i64 0,.int .i64 0,.bool false],.agg #[.int .i64 L.first,.int .i64 L.last,.int .i64 L.size],.int .i64 6]) (by simp [results,Tryz.results36,go_sem,s0,s1,s2,s3,s4,s5,t0,t1,t2]) rfl ?_;rw [E.out];exact ⟨none,0,rfl,Or.inl rfl,HFB.out.drew⟩
  | true=>
    have HV:Hid (∀W,kA W a K.fs→Calls Tryz.prog 82 #[.agg #[.slice a K.fs.length cap,.int .i64 K.c,.int .i64 K.k,.int .i64 K.cr,.int .i64 K.fl,.bool K.dn]] W fun e w'=>e=.returned (.bool true)∧Below W.heap.size W w'):=fun W h=>yW hdv W h HS.out.short hlm HS.out.sum;have HST:Hid (∀W,Below w6.heap.size w6 W→sU W4 W B P D K L):=fun W hb=>⟨HPW.out.later (HBX.out W4 (Below.refl _ _)).2.2.2.2,rA HB6.out hb,by rw [HSZ.out];exact hB,by rw [HSZ.out];exact hP,(HKP6.out.later hb).1,⟨_,H6.out.1.later hb⟩,hdv⟩
    have HAD:Hid (∀W,Below w6.heap.size w6 W→Calls Tryz.prog 83 #[.pointer (some ⟨P,0,none⟩),.string (mD p),.int .i64 most] W fun e w'=>e=.returned (xF (sJ K L (mD p) most).2.2)∧(sJ K L (mD p) most).2.2≤6∧sU W4 w' B P D (sJ K L (mD p) most).1 (sJ K L (mD p) most).2.1):=fun W hb=>by
     cases hfu:nK L (mD p).size most with
     | false=>exact aDi (mD p) most (HST.out W hb) hlb hz60 hfu
     | true=>exact aHz (mD p) most (HST.out W hb) hlb hz60 hfu (hn9 hfu)
    have HFR:Hid _:=fun W=>IW p W (by unfold maxLen;omega);obtain ⟨⟨K2,L2,code⟩,hR⟩:∃R,sJ K L (mD p) most=R:=⟨_,rfl⟩
    have E:Hid (yC K L p most=(K2,L2,code)):=by show _=_;rw [E0.out,hR]
    rw [hR] at HAD;clear hR EA h0 hn9 hdv E0 hlb hz60;generalize mD p=F at *;go_wp2_with fail;refine (HV.out _ (HF4.out _ HB6.out)).mono ?_;rintro e w7 ⟨rfl,hb7⟩;have HB7:Hid _:=hb7;clear hb7 d0 d1 d2 d3 d4 d5;go_wp2_with fail;refine (HFR.out _).mono ?_;rintro e w8 ⟨rfl,hb8⟩;have HB8:Hid _:=rA HB7.out hb8;clear hb8;go_wp2_with fail;refine (HAD.out _ HB8.out).mono ?_;rintro e w9 ⟨rfl,hc6,hst⟩;obtain ⟨v9,hv9⟩:=hst.drive;obtain ⟨a9,cap9,rfl,hown9⟩:=kF hv9.row;obtain ⟨_,hL9,hR9,hR29,hb9⟩:=HBX.out _ hst.below;have H9:Hid (dB w9 B D K2.fs K2.c K2.k K2.cr K2.fl K2.dn (.slice a9 K2.fs.length cap9)∧lA w9 (w.heap.size+1+1) #[.slice none 0 0,.int .i64 0,.int .i64 0,.int .i64 0,.int .i64 0,.bool false] 39∧lA w9 (w.heap.size+1+1+1) #[.int .i64 0,.int .i64 0,.int .i64 0] 40∧Below w.heap.size w w9∧yE w9 B a9 K2.fs):=⟨hv9,hR9,hR29,hb9,hown9⟩
    have HKP9:Hid (KP w.heap.size P D L2 L w9):=⟨hst.wr,hL9⟩
    have HCD:Hid _:=fun W=>zF code hc6 W;have HUN:Hid _:=fun W (h:dB W B D K2.fs K2.c K2.k K2.cr K2.fl K2.dn (.slice a9 K2.fs.length cap9))=>CC D _ a9 _ cap9 _ _ _ _ _ W h.blk;clear hst hv9 hown9 hL9 hR9 hR29 hb9 HAD HST HV HFR HB7 HB8;generalize xF code=EV at *;go_wp2_with fail;go_region_held3 (fun wx=>wx.cell? ⟨P,0,none⟩=some (.pointer (some ⟨D,0,none⟩))∧wx.cell? ⟨P,1,none⟩=some (.int .i64 L2.first)∧wx.cell? ⟨P,2,none⟩=some (.int .i64 L2.last)∧wx.cell? ⟨P,3,none⟩=some (.int .i64 L2.size)∧wx.cell? ⟨w.heap.size+1,0,none⟩=some (.int .i64 L.first)∧wx.cell? ⟨w.heap.size+1,1,none⟩=some (.int .i64 L.last)∧wx.cell? ⟨w.heap.size+1,2,none⟩=some (.int .i64 L.size))
     (exact KP.cells (L:=L) (by repeat (first | with_reducible refine KP.set ?_ (by omega) (by omega) | exact HKP9.out.drew | exact HKP8.out)))
     (first
     | (go_at_call 80;refine (HUN.out _ (H9.out.1.later (Below.refl _ _).drew)).mono ?_;rintro e w8 ⟨rfl,hb8⟩;have HKP8:Hid (KP w.heap.size P D L2 L w8):=HKP9.out.drew.later hb8;have hz:=(H9.out.2.1.later (Below.refl _ _).drew).later hb8;have hy:=(H9.out.2.2.1.later (Below.refl _ _).drew).later hb8;obtain ⟨r0,r1,r2,r3,r4,r5⟩:=hz.six;obtain ⟨y0,y1,y2⟩:=hy.three;have f0:=hz.free 0;have f1:=hz.free 1;have f2:=hz.free 2;have f3:=hz.free 3;have f4:=hz.free 4;have f5:=hz.free 5;have g0:=hy.free 0;have g1:=hy.free 1;have g2:=hy.free 2)
     | (go_at_call 81;refine (HCD.out _).mono ?_;rintro e w' ⟨rfl,hw⟩;replace hw:=hw.symm;subst hw))
    have H8:Hid (Below w.heap.size w w8∧yE w8 B a9 K2.fs):=⟨rA (rA H9.out.2.2.2.1 (Below.refl _ _).drew) hb8,(H9.out.2.2.2.2.later (Below.refl _ _).drew).later hb8⟩
    obtain ⟨hzF,hyF⟩:=xY (v0:=.slice a9 K2.fs.length cap9) (v1:=.int .i64 K2.c) (v2:=.int .i64 K2.k) (v3:=.int .i64 K2.cr) (v4:=.int .i64 K2.fl) (v5:=.bool K2.dn) (x0:=.int .i64 L2.first) (x1:=.int .i64 L2.last) (x2:=.int .i64 L2.size) hz hy;have HFB:Hid (Below w.heap.size w (yJ w.heap.size w8 (.slice a9 K2.fs.length cap9) (.int .i64 K2.c) (.int .i64 K2.k) (.int .i64 K2.cr) (.int .i64 K2.fl) (.bool K2.dn) (.int .i64 L2.first) (.int .i64 L2.last) (.int .i64 L2.size))):=zU H8.out.1 (Nat.le_refl _);have HFO:Hid (yE (yJ w.heap.size w8 (.slice a9 K2.fs.length cap9) (.int .i64 K2.c) (.int .i64 K2.k) (.int .i64 K2.cr) (.int .i64 K2.fl) (.bool K2.dn) (.int .i64 L2.first) (.int .i64 L2.last) (.int .i64 L2.size)) B a9 K2.fs):=EU H8.out.2 hB;obtain ⟨s0,s1,s2,s3,s4,s5⟩:=hzF.six;obtain ⟨t0,t1,t2⟩:=hyF.three;clear hz hy r0 r1 r2 r3 r4 r5 y0 y1 y2 f0 f1 f2 f3 f4 f5 g0 g1 g2 hzF hyF;change Exit.then _ _ Exit.normal _ (yJ w.heap.size w8 (.slice a9 K2.fs.length cap9) (.int .i64 K2.c) (.int .i64 K2.k) (.int .i64 K2.cr) (.int .i64 K2.fl) (.bool K2.dn) (.int .i64 L2.first) (.int .i64 L2.last) (.int .i64 L2.size));generalize yJ w.heap.size w8 (.slice a9 K2.fs.length cap9) (.int .i64 K2.c) (.int .i64 K2.k) (.int .i64 K2.cr) (.int .i64 K2.fl) (.bool K2.dn) (.int .i64 L2.first) (.int .i64 L2.last) (.int .i64 L2.size)=W9 at *;go_wp2;refine bodyPost_ret (v:=.tuple #[.agg #[.slice a9 K2.fs.length cap9,.int .i64 K2.c,.int .i64 K2.k,.int .i64 K2.cr,.int .i64 K2.fl,.bool K2.dn],.agg #[.int .i64 L2.first,.int .i64 L2.last,.int .i64 L2.size],.int .i64 code]) (by simp [results,Tryz.results36,go_sem,s0,s1,s2,s3,s4,s5,t0,t1,t2]) rfl ?_;rw [E.out];exact ⟨a9,cap9,rfl,HFO.out.mono (by omega),HFB.out⟩
 ·have E:Hid (yC K L p most=(K,L,bM L p most)):=RU h0;have hc3:bM L p most=21∨bM L p most=22∨bM L p most=23:=by
   unfold bM at h0 ⊢;split
   ·exact Or.inl rfl
   ·split
    ·exact Or.inr (Or.inl rfl)
    ·split
     ·exact Or.inr (Or.inr rfl)
     ·rename_i h1 h2 h3;rw [if_neg h1,if_neg h2,if_neg h3] at h0;exact absurd rfl h0
  obtain ⟨t,ht⟩:∃t,aMc (bM L p most)=.iface 187 (.string t):=by
   rcases hc3 with e | e | e<;>rw [e]<;>exact ⟨_,rfl⟩
  have HCD:Hid (∀W,Calls Tryz.prog 81 #[.iface 187 (.string t)] W fun e w'=>e=.returned (.int .i64 (bM L p most:Nat))∧w'=W):=fun W=>by
   rw [←ht];exact VC _ (Or.inr (Or.inr hc3)) W
  have HUN:Hid _:=fun W (h:dB W B D K.fs K.c K.k K.cr K.fl K.dn (.slice a4 K.fs.length cap4))=>CC D _ a4 _ cap4 _ _ _ _ _ W h.blk;rw [ht];clear ht h0 hc3;generalize bM L p most=code at *;go_wp2_with fail;go_region_held3 (fun wx=>wx.cell? ⟨P,0,none⟩=some (.pointer (some ⟨D,0,none⟩))∧wx.cell? ⟨P,1,none⟩=some (.int .i64 L.first)∧wx.cell? ⟨P,2,none⟩=some (.int .i64 L.last)∧wx.cell? ⟨P,3,none⟩=some (.int .i64 L.size)∧wx.cell? ⟨w.heap.size+1,0,none⟩=some (.int .i64 L.first)∧wx.cell? ⟨w.heap.size+1,1,none⟩=some (.int .i64 L.last)∧wx.cell? ⟨w.heap.size+1,2,none⟩=some (.int .i64 L.size))
   (exact KP.cells (L:=L) (by repeat (first | with_reducible refine KP.set ?_ (by omega) (by omega) | exact HKP6.out.drew | exact HKP8.out)))
   (first
   | (go_at_call 80;refine (HUN.out _ (H6.out.1.later (Below.refl _ _).drew)).mono ?_;rintro e w8 ⟨rfl,hb8⟩;have HKP8:Hid (KP w.heap.size P D L L w8):=HKP6.out.drew.later hb8;have hz:=(H6.out.2.2.1.later (Below.refl _ _).drew).later hb8;have hy:=(H6.out.2.2.2.1.later (Below.refl _ _).drew).later hb8;obtain ⟨r0,r1,r2,r3,r4,r5⟩:=hz.six;obtain ⟨y0,y1,y2⟩:=hy.three;have f0:=hz.free 0;have f1:=hz.free 1;have f2:=hz.free 2;have f3:=hz.free 3;have f4:=hz.free 4;have f5:=hz.free 5;have g0:=hy.free 0;have g1:=hy.free 1;have g2:=hy.free 2)
   | (go_at_call 81;refine (HCD.out _).mono ?_;rintro e w' ⟨rfl,hw⟩;replace hw:=hw.symm;subst hw))
  have H8:Hid (Below w.heap.size w w8∧yE w8 B a4 K.fs):=⟨rA (rA H6.out.2.2.2.2.1 (Below.refl _ _).drew) hb8,(H6.out.2.2.2.2.2.later (Below.refl _ _).drew).later hb8⟩
  obtain ⟨hzF,hyF⟩:=xY (v0:=.slice a4 K.fs.length cap4) (v1:=.int .i64 K.c) (v2:=.int .i64 K.k) (v3:=.int .i64 K.cr) (v4:=.int .i64 K.fl) (v5:=.bool K.dn) (x0:=.int .i64 L.first) (x1:=.int .i64 L.last) (x2:=.int .i64 L.size) hz hy;have HFB:Hid (Below w.heap.size w (yJ w.heap.size w8 (.slice a4 K.fs.length cap4) (.int .i64 K.c) (.int .i64 K.k) (.int .i64 K.cr) (.int .i64 K.fl) (.bool K.dn) (.int .i64 L.first) (.int .i64 L.last) (.int .i64 L.size))):=zU H8.out.1 (Nat.le_refl _);have HFO:Hid (yE (yJ w.heap.size w8 (.slice a4 K.fs.length cap4) (.int .i64 K.c) (.int .i64 K.k) (.int .i64 K.cr) (.int .i64 K.fl) (.bool K.dn) (.int .i64 L.first) (.int .i64 L.last) (.int .i64 L.size)) B a4 K.fs):=EU H8.out.2 hB;obtain ⟨s0,s1,s2,s3,s4,s5⟩:=hzF.six;obtain ⟨t0,t1,t2⟩:=hyF.three;clear hz hy r0 r1 r2 r3 r4 r5 y0 y1 y2 f0 f1 f2 f3 f4 f5 g0 g1 g2 hzF hyF;change Exit.then _ _ Exit.normal _ (yJ w.heap.size w8 (.slice a4 K.fs.length cap4) (.int .i64 K.c) (.int .i64 K.k) (.int .i64 K.cr) (.int .i64 K.fl) (.bool K.dn) (.int .i64 L.first) (.int .i64 L.last) (.int .i64 L.size));generalize yJ w.heap.size w8 (.slice a4 K.fs.length cap4) (.int .i64 K.c) (.int .i64 K.k) (.int .i64 K.cr) (.int .i64 K.fl) (.bool K.dn) (.int .i64 L.first) (.int .i64 L.last) (.int .i64 L.size)=W9 at *;go_wp2;refine bodyPost_ret (v:=.tuple #[.agg #[.slice a4 K.fs.length cap4,.int .i64 K.c,.int .i64 K.k,.int .i64 K.cr,.int .i64 K.fl,.bool K.dn],.agg #[.int .i64 L.first,.int .i64 L.last,.int .i64 L.size],.int .i64 code]) (by simp [results,Tryz.results36,go_sem,s0,s1,s2,s3,s4,s5,t0,t1,t2]) rfl ?_;rw [E.out];exact ⟨a4,cap4,rfl,HFO.out.mono (by omega),HFB.out⟩
theorem aCc (x lo hi:Int):mA x lo hi=decide (lo≤x∧x≤hi):=by
 unfold mA;by_cases h1:lo≤x<;>by_cases h2:x≤hi<;>simp [h1,h2]
theorem NM {x:ByteArray}:(x.toList==[])=decide (x.size=0):=by
 rw [ByteArray.toList_eq];cases h:x.data.toList with
 | nil=>
   have h2:x.size=0:=by have:x.data.toList.length=0:=by rw [h];rfl
                        simpa using this
   simp [h2]
 | cons a l=>
   have h2:x.size≠0:=by have:x.data.toList.length=l.length+1:=by rw [h];rfl
                        simp at this;omega
   simp [h2]
theorem WY (ki nu:Int) (te tx:ByteArray) (w:World) (h1:te.size≤1000000000) (h2:tx.size≤1000000000):
 Calls Tryz.prog 56 #[.agg #[.int .i64 ki,.string te,.string tx,.int .i64 nu]] w fun e w'=>e=.returned (.bool (WE ⟨ki,te,tx,nu⟩))∧Below w.heap.size w w':=by
 by_cases z1:te.size > 255
 ·have E:Hid (WE ⟨ki,te,tx,nu⟩=false):=iA (jU fun h=>by have:=h.1;simp only at this;omega);have z1':(te.size:Int) > 255:=by omega
  go_enter Tryz.func56,Tryz.ntmps56;go_wp2;go_ret;exact ⟨jA E.out.symm,bA _ _⟩
 have z1':¬(te.size:Int) > 255:=by omega
 by_cases z2:tx.size > 65535
 ·have E:Hid (WE ⟨ki,te,tx,nu⟩=false):=iA (jU fun h=>by have:=h.2.1;simp only at this;omega);have z2':(tx.size:Int) > 65535:=by omega
  go_enter Tryz.func56,Tryz.ntmps56;go_wp2;go_ret;exact ⟨jA E.out.symm,bA _ _⟩
 have z2':¬(tx.size:Int) > 65535:=by omega
 by_cases k1:ki=1
 ·subst k1;have E:Hid (WE ⟨1,te,tx,nu⟩=(nu==0)):=iA (by
   by_cases h:nu=0
   ·rw [MD (show cK ⟨1,te,tx,nu⟩ from ⟨by simp only;omega,by simp only;omega,Or.inl ⟨rfl,h⟩⟩)];simp [h]
   ·rw [jU (show ¬cK ⟨1,te,tx,nu⟩ from fun hh=>hh.2.2.elim (fun g=>h g.2) (fun g=>g.elim (fun g=>absurd g.1 (show ¬(1:Int)=2 by decide)) (fun g=>absurd g (show ¬(1:Int)=3 by decide))))];simp [h])
  go_enter Tryz.func56,Tryz.ntmps56;go_wp2;go_ret;exact ⟨jA E.out.symm,bA _ _⟩
 by_cases k2:ki=2
 ·subst k2;by_cases he:te.size=0
  ·have E:Hid (WE ⟨2,te,tx,nu⟩=(tx.toList==[])):=iA (by
    rw [NM];by_cases h:tx.size=0
    ·rw [MD (show cK ⟨2,te,tx,nu⟩ from ⟨by simp only;omega,by simp only;omega,Or.inr (Or.inl ⟨rfl,he,h⟩)⟩),decide_eq_true h]
    ·rw [jU (show ¬cK ⟨2,te,tx,nu⟩ from fun hh=>hh.2.2.elim (fun g=>absurd g.1 (show ¬(2:Int)=1 by decide)) (fun g=>g.elim (fun g=>h g.2.2) (fun g=>absurd g (show ¬(2:Int)=3 by decide)))),decide_eq_false h])
   have hd:(te.toList==[])=true:=by rw [NM];exact decide_eq_true he
   have hde:te.toList.isEmpty=true:=by simpa using hd
   clear he z1 z2;go_enter Tryz.func56,Tryz.ntmps56;go_wp2;go_ret;exact ⟨jA (by rw [E.out];first | rfl | simp),bA _ _⟩
  ·have E:Hid (WE ⟨2,te,tx,nu⟩=false):=iA (jU fun hh=>hh.2.2.elim (fun g=>absurd g.1 (show ¬(2:Int)=1 by decide)) (fun g=>g.elim (fun g=>he g.2.1) (fun g=>absurd g (show ¬(2:Int)=3 by decide))));have hd:(te.toList==[])=false:=by rw [NM];exact decide_eq_false he
   have hde:te.toList.isEmpty=false:=by simpa using hd
   clear he z1 z2;go_enter Tryz.func56,Tryz.ntmps56;go_wp2;go_ret;exact ⟨jA E.out.symm,bA _ _⟩
 by_cases k3:ki=3
 ·subst k3;have E:Hid (WE ⟨3,te,tx,nu⟩=true):=iA (MD ⟨by simp only;omega,by simp only;omega,Or.inr (Or.inr rfl)⟩);go_enter Tryz.func56,Tryz.ntmps56;go_wp2;go_ret;exact ⟨jA E.out.symm,bA _ _⟩
 have E:Hid (WE ⟨ki,te,tx,nu⟩=false):=iA (jU fun hh=>hh.2.2.elim (fun g=>k1 g.1) (fun g=>g.elim (fun g=>k2 g.1) (fun g=>k3 g)));go_enter Tryz.func56,Tryz.ntmps56;go_wp2;go_ret;exact ⟨jA E.out.symm,bA _ _⟩
def aNr (rs:List pC):Prop:=∀i (h:i<rs.length),rs[i].tenant.size≤1000000000∧rs[i].text.size≤1000000000
def aPt:Op:=Op.convert 9 102 (Operand.tmp 24)
theorem WU (lsn:Int) (a:Option Addr) (cap:Nat) (rs:List pC) (w:World) (hf:oE w a rs) (hB:aNr rs) (hR:aDf rs) (hlsn:I64 lsn) (hlen:rs.length≤2000000):
 Calls Tryz.prog 23 #[.agg #[.int .i64 lsn,.slice a rs.length cap]] w fun e w'=>e=.returned (.string (eJ lsn rs))∧Below w.heap.size w w':=by
 have HW1:Hid (∀W,Calls Tryz.prog 22 #[.int .i64 lsn,.int .i64 1,.int .i64 1000000000000000] W fun e w'=>e=.returned (.bool (decide (1≤lsn∧lsn≤1000000000000000)))∧w'=W):=fun W=>by have:=sC lsn 1 1000000000000000 W;rw [aCc] at this;exact this
 have HW2:Hid (∀W,Calls Tryz.prog 22 #[.int .i64 (rs.length:Nat),.int .i64 1,.int .i64 500] W fun e w'=>e=.returned (.bool (decide (1≤((rs.length:Nat):Int)∧((rs.length:Nat):Int)≤500)))∧w'=W):=fun W=>by have:=sC (rs.length:Nat) 1 500 W;rw [aCc] at this;exact this
 by_cases c1:¬(1≤lsn∧lsn≤1000000000000000)
 ·have E:Hid (eJ lsn rs=ByteArray.empty):=nO fun h=>c1 ⟨h.1,h.2.1⟩;rw [E.out];rw [show decide (1≤lsn∧lsn≤1000000000000000)=false from decide_eq_false c1] at HW1;clear hf hB c1 hR hlsn;go_enter Tryz.func23,Tryz.ntmps23;go_wp2_with fail;refine (HW1.out _).mono ?_;rintro e w1 ⟨rfl,hw⟩;replace hw:=hw.symm;subst hw;go_wp2;go_ret;exact ⟨rfl,bA _ _⟩
 replace c1:=Classical.not_not.1 c1;rw [decide_eq_true c1] at HW1;by_cases c3:¬(1≤((rs.length:Nat):Int)∧((rs.length:Nat):Int)≤500)
 ·have E:Hid (eJ lsn rs=ByteArray.empty):=nO fun h=>c3 ⟨by have:=h.2.2.1;omega,by have:=h.2.2.2.1;omega⟩;rw [E.out];rw [decide_eq_false c3] at HW2;clear hf hB c1 c3 hR hlsn;go_enter Tryz.func23,Tryz.ntmps23;go_wp2_with fail;refine (HW1.out _).mono ?_;rintro e w1 ⟨rfl,hw⟩;replace hw:=hw.symm;subst hw;go_wp2_with fail;refine (HW2.out _).mono ?_;rintro e w1 ⟨rfl,hw⟩;replace hw:=hw.symm;subst hw;go_wp2;go_ret;exact ⟨rfl,bA _ _⟩
 replace c3:=Classical.not_not.1 c3;rw [decide_eq_true c3] at HW2;have HF:Hid (oE w a rs):=hf;have HB:Hid (aNr rs):=hB;have HR:Hid (aDf rs):=hR;have HU64:Hid (∀W,Calls Tryz.prog 55 #[.int .i64 8,.int .i64 lsn] W fun e w'=>e=.returned (.string (nC 8 lsn))∧Below W.heap.size W w'):=fun W=>bG 8 lsn W (by omega) hlsn.1 hlsn.2;have HU16:Hid (∀W,Calls Tryz.prog 55 #[.int .i64 2,.int .i64 (rs.length:Nat)] W fun e w'=>e=.returned (.string (nC 2 (rs.length:Nat)))∧Below W.heap.size W w'):=fun W=>bG 2 (rs.length:Nat) W (by omega) (by omega) (by omega);have hz8:=yB 8 lsn;have hz2:=yB 2 (rs.length:Nat);have HKB:Hid (zT lsn rs→eJ lsn rs=nC 8 lsn++nC 2 (rs.length:Nat)++rI rs):=fun h=>NI h;have HOK:Hid (aDj rs→zT lsn rs):=fun h=>⟨by omega,by omega,by omega,by omega,h⟩
 generalize nC 8 lsn=N8 at *;generalize nC 2 (rs.length:Nat)=N2 at *;have hz10:(N8++N2).size=10:=by rw [ByteArray.size_append,hz8,hz2]
 obtain ⟨CV,CN,hcv,hcn⟩:=aIj (N8++N2) (by omega);have HCN:Hid _:=hcn;clear hf hB hR hlsn hcn;go_enter Tryz.func23,Tryz.ntmps23;go_wp2_with fail;refine (HW1.out _).mono ?_;rintro e w1 ⟨rfl,hw⟩;replace hw:=hw.symm;subst hw;go_wp2_with fail;refine (HW2.out _).mono ?_;rintro e w1 ⟨rfl,hw⟩;replace hw:=hw.symm;subst hw;clear HW1 HW2;go_upto_region 3 with fail;have X6:Hid (lA (w.alloc (.cells #[.int .i64 lsn,.slice a rs.length cap] 70)) w.heap.size #[.int .i64 lsn,.slice a rs.length cap] 70):=lA.new _ _ _;have B0:Hid (Below w.heap.size w (w.alloc (.cells #[.int .i64 lsn,.slice a rs.length cap] 70))):=bA _ _;generalize w.alloc (.cells #[.int .i64 lsn,.slice a rs.length cap] 70)=w0 at *;have HK:Hid (∀w',Below w0.heap.size w0 w'→w'.cell? ⟨w.heap.size,0,none⟩=some (.int .i64 lsn)∧w'.cell? ⟨w.heap.size,1,none⟩=some (.slice a rs.length cap)):=fun w' h=>by
  have q:=X6.out.later h;exact ⟨q.cell 0,q.cell 1⟩
 obtain ⟨x0,x1⟩:=HK.out w0 (Below.refl _ _);go_cut [3] (fun s wx=>pN wx w0.heap.size s (N8++N2)∧Below w0.heap.size w0 wx)
 case first=>
  rw [show Op.convert 9 102 (Operand.tmp 24)=aPt from rfl];have hop:aPt=Op.convert 9 102 (Operand.tmp 24):=rfl;go_region_held3 (fun w'=>w'.cell? ⟨w.heap.size,0,none⟩=some (.int .i64 lsn)∧w'.cell? ⟨w.heap.size,1,none⟩=some (.slice a rs.length cap))
   (first | go_keep | exact HK.out _ (rA k4 (HCN.out _).2) | exact HK.out _ k4 | exact HK.out _ k3)
   (first
    | (go_at_call 55;(fail_if_success (have q:=k3));refine (HU64.out _).mono ?_;rintro e w3 ⟨rfl,hb3⟩;have k3:Below w0.heap.size w0 w3:=(by exact rA (Below.refl _ _).drew hb3))
    | (go_at_call 55;have q:=k3;clear q;refine (HU16.out _).mono ?_;rintro e w4 ⟨rfl,hb4⟩;have k4:Below w0.heap.size w0 w4:=(by exact rA k3 hb4)))
  all_goals (go_wp2_with fail;go_meet)
  all_goals exact ⟨(HCN.out _).1.mono k4.size,rA k4 (HCN.out _).2⟩
 obtain ⟨hrow0,hbx⟩:=hcut;rename World=>w5;have B5:Hid _:=rA B0.out hbx;have HBL:Hid (pN w5 w.heap.size u3 (N8++N2)):=hrow0.mono B0.out.size;have HK5:Hid _:=fun w' h=>HK.out w' (rA hbx h);obtain ⟨y0,y1⟩:=HK5.out w5 (Below.refl _ _);clear x0 x1 HK X6 hrow0 hbx B0 HU64 HU16 HK5 HCN hcv;go_wp2;go_loopw [3,5,29] (fun out _ i wr=>∃(k:Nat) (st:ByteArray),k≤rs.length∧i=.int .i64 k∧st.size≤10+k * 3000000000∧Hid (st=N8++N2++rI (rs.take k))∧Hid (∀j (h:j<rs.length),j<k→cK rs[j])∧Hid (pN wr w.heap.size out st)∧Below w.heap.size w wr) (fun _ _ i _=>rs.length - (intOf i).toNat)
 case atStart=>
  exact ⟨0,N8++N2,Nat.zero_le _,rfl,by omega,by show _=_;simp [rI],fun j _ h=>absurd h (by omega),HBL.out,B5.out⟩
 case round=>
  obtain ⟨k,st,hk,rfl,hst,HST,HALL,HROW,hbel⟩:=hrel;by_cases hlt:k<rs.length
  ·obtain ⟨b,o,rfl,hb,c0,c1,c2,c3⟩:=(HF.out.later hbel).at hlt;obtain ⟨hn1,hn2⟩:=HB.out k hlt;obtain ⟨hr1,hr2⟩:=HR.out k hlt;have HEN:Hid (∀W,Calls Tryz.prog 56 #[.agg #[.int .i64 rs[k].kind,.string rs[k].tenant,.string rs[k].text,.int .i64 rs[k].num]] W fun e w'=>e=.returned (.bool (WE rs[k]))∧Below W.heap.size W w'):=fun W=>WY _ _ _ _ W hn1 hn2;by_cases hok:cK rs[k]
   ·rw [MD hok] at HEN;have HK1:Hid (∀W,Calls Tryz.prog 55 #[.int .i64 1,.int .i64 rs[k].kind] W fun e w'=>e=.returned (.string (nC 1 rs[k].kind))∧Below W.heap.size W w'):=fun W=>bG 1 _ W (by omega) hr1.1 hr1.2;have HS8:Hid _:=fun W=>GP rs[k].tenant W hn1;have HS16:Hid _:=fun W=>BR rs[k].text W hn2;have HN8:Hid (∀W,Calls Tryz.prog 55 #[.int .i64 8,.int .i64 rs[k].num] W fun e w'=>e=.returned (.string (nC 8 rs[k].num))∧Below W.heap.size W w'):=fun W=>bG 8 _ W (by omega) hr2.1 hr2.2;have hq1:=yB 1 rs[k].kind;have hq2:=vS rs[k].tenant;have hq3:=dQ rs[k].text;have hq4:=yB 8 rs[k].num;have HA2:Hid (∀j (h:j<rs.length),j<k+1→cK rs[j]):=fun j h hj=>by
     rcases Nat.lt_or_ge j k with h1 | h1
     ·exact HALL.out j h h1
     ·obtain rfl:j=k:=by omega
      exact hok
    have HT:=YS rs k hlt;have E2:Hid (st++(nC 1 rs[k].kind++kY rs[k].tenant++iJ rs[k].text++nC 8 rs[k].num)=N8++N2++rI (rs.take (k+1))):=by show _=_;rw [HT,HST.out,OD,ByteArray.append_assoc]
    clear HT hok HALL hr1 hr2;generalize nC 1 rs[k].kind=S1 at *;generalize kY rs[k].tenant=S2 at *;generalize iJ rs[k].text=S3 at *;generalize nC 8 rs[k].num=S4 at *;generalize rs[k].kind=ki at *;generalize rs[k].tenant=te at *;generalize rs[k].text=tx at *;generalize rs[k].num=nu at *;have hq5:(S1++S2).size=S1.size+S2.size:=ByteArray.size_append;have hq6:(S1++S2++S3).size=S1.size+S2.size+S3.size:=by rw [ByteArray.size_append,hq5]
    have hq7:(S1++S2++S3++S4).size=S1.size+S2.size+S3.size+S4.size:=by rw [ByteArray.size_append,hq6]
    have hq8:(st++(S1++S2++S3++S4)).size=st.size+(S1.size+S2.size+S3.size+S4.size):=by rw [ByteArray.size_append,hq7]
    have n1:¬(9223372036854775807<S1.size+S2.size):=by omega
    have n2:¬(9223372036854775807<S1.size+S2.size+S3.size):=by omega
    have n3:¬(9223372036854775807<S1.size+S2.size+S3.size+S4.size):=by omega
    have HQ:Hid (S1.size=1∧S2.size=1+te.size∧S3.size=2+tx.size∧S4.size=8):=⟨hq1,hq2,hq3,hq4⟩
    clear hq1 hq2 hq3 hq4;have hnb:¬b=wr.heap.size:=by omega
    have hsz:=hbel.size;obtain ⟨gv,hgv,hgv1,hgv2⟩:=HROW.out.lt;have HBX:Hid (lA (wr.alloc (.cells #[.int .i64 ki,.string te,.string tx,.int .i64 nu] 77)) wr.heap.size #[.int .i64 ki,.string te,.string tx,.int .i64 nu] 77∧Below wr.heap.size wr (wr.alloc (.cells #[.int .i64 ki,.string te,.string tx,.int .i64 nu] 77))):=⟨heap_alloc_new _ _,bA _ _⟩
    have HR2:Hid (pN (wr.alloc (.cells #[.int .i64 ki,.string te,.string tx,.int .i64 nu] 77)) w.heap.size u3 st∧Below w.heap.size w (wr.alloc (.cells #[.int .i64 ki,.string te,.string tx,.int .i64 nu] 77))):=⟨HROW.out.later (bA _ _),rA hbel (bA _ _)⟩
    go_wp2_with fail;refine (HEN.out _).mono ?_;rintro e W ⟨rfl,hbW⟩;have HBX':Hid (lA W wr.heap.size #[.int .i64 ki,.string te,.string tx,.int .i64 nu] 77):=HBX.out.1.later hbW;have HR2':Hid (pN W w.heap.size u3 st∧Below w.heap.size w W):=⟨HR2.out.1.later hbW,rA HR2.out.2 hbW⟩
    have x0:W.cell? ⟨wr.heap.size,0,none⟩=some (.int .i64 ki):=HBX'.out.cell 0;have x1:W.cell? ⟨wr.heap.size,1,none⟩=some (.string te):=HBX'.out.cell 1;have x2:W.cell? ⟨wr.heap.size,2,none⟩=some (.string tx):=HBX'.out.cell 2;have x3:W.cell? ⟨wr.heap.size,3,none⟩=some (.int .i64 nu):=HBX'.out.cell 3;have hBX:=aA HBX'.out;have hww:=HR2'.out.2.size;have hngv:gv≠wr.heap.size:=by omega
    have HGV:Hid _:=hgv;clear HROW HBX HBX' HR2 hnb hb c0 c1 c2 c3 hbel hsz hbW HEN hgv hgv1 hgv2;go_wp2_with fail;generalize wr.heap.size=BX at *;clear wr;have HKX:Hid (∀w',Below W.heap.size W w'→w'.cell? ⟨BX,0,none⟩=some (.int .i64 ki)∧w'.cell? ⟨BX,1,none⟩=some (.string te)∧w'.cell? ⟨BX,2,none⟩=some (.string tx)∧w'.cell? ⟨BX,3,none⟩=some (.int .i64 nu)):=fun w' h=>⟨(h.cell hBX).trans x0,(h.cell hBX).trans x1,(h.cell hBX).trans x2,(h.cell hBX).trans x3⟩
    go_region_held3 (fun w'=>w'.cell? ⟨BX,0,none⟩=some (.int .i64 ki)∧w'.cell? ⟨BX,1,none⟩=some (.string te)∧w'.cell? ⟨BX,2,none⟩=some (.string tx)∧w'.cell? ⟨BX,3,none⟩=some (.int .i64 nu))
     (first
      | go_keep
      | exact hkx5
      | exact HKX.out _ hc4
      | exact HKX.out _ hc3
      | exact HKX.out _ hc2
      | exact HKX.out _ hc1)
     ((first
       | (go_at_call 55;(fail_if_success (have q:=hc1));refine (HK1.out _).mono ?_;rintro e w1 ⟨rfl,hb1⟩;have hc1:Below W.heap.size W w1:=(Below.refl _ W).drew.trans hb1)
       | (go_at_call 57;refine (HS8.out _).mono ?_;rintro e w2 ⟨rfl,hb2⟩;have hc2:Below W.heap.size W w2:=hc1.trans (hb2.mono hc1.size))
       | (go_at_call 58;refine (HS16.out _).mono ?_;rintro e w3 ⟨rfl,hb3⟩;have hc3:Below W.heap.size W w3:=hc2.trans (hb3.mono hc2.size))
       | (go_at_call 55;have q:=hc3;clear q;refine (HN8.out _).mono ?_;rintro e w4 ⟨rfl,hb4⟩;have hc4:Below W.heap.size W w4:=hc3.trans (hb4.mono hc3.size))
       | (have q:=hc4;clear q;refine JO _ (by rfl) _ _ (by rfl) w.heap.size _ st (S1++S2++S3++S4) (by rfl) (by exact HR2'.out.1.later hc4) (by rfl) (by have:=hc4.size;omega) (by have:=HQ.out;omega) ?_;intro v5 w5 hrow5 hB5 hk5;have hkx5:w5.cell? ⟨BX,0,none⟩=some (.int .i64 ki)∧w5.cell? ⟨BX,1,none⟩=some (.string te)∧w5.cell? ⟨BX,2,none⟩=some (.string tx)∧w5.cell? ⟨BX,3,none⟩=some (.int .i64 nu):=(by have q:=HKX.out _ hc4;have hne:=hk5 BX (by have:=hc4.size;omega) (fun e=>hngv (Option.some.inj (HGV.out.symm.trans e)));exact ⟨(World.cell?_of_block hne).trans q.1,(World.cell?_of_block hne).trans q.2.1,(World.cell?_of_block hne).trans q.2.2.1,(World.cell?_of_block hne).trans q.2.2.2⟩);have hB5':Below w.heap.size w w5:=(rA HR2'.out.2 hc4).trans hB5)))
    have HO5:Hid (pN w5 w.heap.size v5 (st++(S1++S2++S3++S4))∧Below w.heap.size w w5):=⟨hrow5,hB5'⟩
    clear hrow5 hB5 hB5' hk5 hkx5;have hst5:(st++(S1++S2++S3++S4)).size≤10+(k+1) * 3000000000:=by have:=HQ.out;omega
    clear hq5 hq6 hq7 hq8 n1 n2 n3;generalize st++(S1++S2++S3++S4)=st5 at *;go_wp2;exact ⟨⟨k+1,st5,by omega,by go_num,hst5,E2.out,HA2.out,HO5.out.1,HO5.out.2⟩,by simp [intOf];omega⟩
   ·have E:Hid _:=aBt hlt hok lsn;rw [jU hok] at HEN;generalize rs[k].kind=ki at *;generalize rs[k].tenant=te at *;generalize rs[k].text=tx at *;generalize rs[k].num=nu at *;clear hok HALL HROW;go_wp2_with fail;refine (HEN.out _).mono ?_;rintro e W ⟨rfl,hbW⟩;have BW:Hid _:=rA (rA hbel (bA _ _)) hbW;clear hbW HEN;go_wp2;go_ret;exact ⟨by rw [E.out];rfl,BW.out⟩
  ·have hall:aDj rs:=fun j h=>HALL.out j h (by omega);have E2:Hid (st=eJ lsn rs):=by
    show _=_;rw [HST.out,List.take_of_length_le (by omega),HKB.out (HOK.out hall)]
   have hbk:=aOe HROW.out;rw [E2.out] at hbk;clear HROW hall;go_wp2;go_ret;exact ⟨rfl,hbel⟩
end Go.Proofs.YtcneojllbkacoaaGreatDoor
