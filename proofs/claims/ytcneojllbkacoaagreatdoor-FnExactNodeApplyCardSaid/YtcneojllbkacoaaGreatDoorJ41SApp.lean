import Derived.Test.YtcneojllbkacoaaGreatDoorJ30LogHelp
import Derived.Deep.DeepCutAuto
set_option maxRecDepth 100000
set_option maxHeartbeats 8000000
namespace Go.Proofs.YtcneojllbkacoaaGreatDoor
open Go.RowKit
theorem VD {L:fF}{b:Bool} (h:mI L=b) (w:World):Calls Tryz.prog 60 #[.agg #[.int .i64 L.first,.int .i64 L.last,.int .i64 L.size]] w fun e w'=>e=.returned (.bool b)∧Below w.heap.size w w':=h ▸ JM L w
def aPq (R:cE×fF×Nat) (a:Option Addr) (cap:Nat):Value:=
 .tuple #[.agg #[.slice a R.1.fs.length cap,.int .i64 R.1.c,.int .i64 R.1.k,.int .i64 R.1.cr,.int .i64 R.1.fl,.bool R.1.dn],.agg #[.int .i64 R.2.1.first,.int .i64 R.2.1.last,.int .i64 R.2.1.size],.int .i64 R.2.2]
structure LA (w W:World) (P:Nat) (a:Option Addr) (cap:Nat) (fs:List eA) (c k cr fl:Int) (dn:Bool) (lf ll ls:Int):Prop where
 D:lA W P #[.slice a fs.length cap,.int .i64 c,.int .i64 k,.int .i64 cr,.int .i64 fl,.bool dn] 39
 L:lA W (w.heap.size+1) #[.int .i64 lf,.int .i64 ll,.int .i64 ls] 40
 RD:lA W (w.heap.size+1+1) #[.slice none 0 0,.int .i64 0,.int .i64 0,.int .i64 0,.int .i64 0,.bool false] 39
 RL:lA W (w.heap.size+1+1+1) #[.int .i64 0,.int .i64 0,.int .i64 0] 40
 F:kA W a fs
 B:Below w.heap.size w W
section
variable {w W W':World}{P Q:Nat}{a a':Option Addr}{cap cap':Nat}{fs fs':List eA}{c k cr fl c' k' cr' fl':Int}{dn dn':Bool}{lf ll ls:Int}
theorem LA.later (h:LA w W P a cap fs c k cr fl dn lf ll ls) (hb:Below W.heap.size W W'):LA w W' P a cap fs c k cr fl dn lf ll ls:=⟨h.D.later hb,h.L.later hb,h.RD.later hb,h.RL.later hb,h.F.later hb,rA h.B hb⟩
theorem LA.cells (h:LA w W P a cap fs c k cr fl dn lf ll ls):(W.cell? ⟨P,0,none⟩=some (.slice a fs.length cap)∧W.cell? ⟨P,1,none⟩=some (.int .i64 c)∧W.cell? ⟨P,2,none⟩=some (.int .i64 k)∧W.cell? ⟨P,3,none⟩=some (.int .i64 cr)∧W.cell? ⟨P,4,none⟩=some (.int .i64 fl)∧W.cell? ⟨P,5,none⟩=some (.bool dn))∧(W.cell? ⟨w.heap.size+1,0,none⟩=some (.int .i64 lf)∧W.cell? ⟨w.heap.size+1,1,none⟩=some (.int .i64 ll)∧W.cell? ⟨w.heap.size+1,2,none⟩=some (.int .i64 ls))∧
 (W.cell? ⟨w.heap.size+1+1,0,none⟩=some (.slice none 0 0)∧W.cell? ⟨w.heap.size+1+1,1,none⟩=some (.int .i64 0)∧W.cell? ⟨w.heap.size+1+1,2,none⟩=some (.int .i64 0)∧W.cell? ⟨w.heap.size+1+1,3,none⟩=some (.int .i64 0)∧W.cell? ⟨w.heap.size+1+1,4,none⟩=some (.int .i64 0)∧W.cell? ⟨w.heap.size+1+1,5,none⟩=some (.bool false))∧(W.cell? ⟨w.heap.size+1+1+1,0,none⟩=some (.int .i64 0)∧W.cell? ⟨w.heap.size+1+1+1,1,none⟩=some (.int .i64 0)∧W.cell? ⟨w.heap.size+1+1+1,2,none⟩=some (.int .i64 0))∧
 (∀j,W.frozen? ⟨P,j,none⟩=false)∧(∀j,W.frozen? ⟨w.heap.size+1,j,none⟩=false)∧(∀j,W.frozen? ⟨w.heap.size+1+1,j,none⟩=false)∧(∀j,W.frozen? ⟨w.heap.size+1+1+1,j,none⟩=false)∧w.heap.size+1+1+1<W.heap.size:=
 ⟨h.D.c6,h.L.c3,h.RD.c6,h.RL.c3,h.D.free,h.L.free,h.RD.free,h.RL.free,aA h.RL⟩
theorem ZB {S:Nat→Prop} (h:kA W a fs) (ht:dA S W W') (hs:∀b o,a=some ⟨b,o,none⟩→S b→fs=[]):kA W' a fs:=by
 rcases h with h | ⟨b,o,rfl,hlt,h⟩
 ·exact Or.inl h
 ·by_cases hb:S b
  ·exact Or.inl (hs b o rfl hb)
  ·have hk:∀j,W'.cell? ⟨b,j,none⟩=W.cell? ⟨b,j,none⟩:=fun j=>World.cell?_of_block (ht.block b hlt hb);exact Or.inr ⟨b,o,rfl,by have:=ht.size;omega,fun i hi=>by simp only [hk];exact h i hi⟩
theorem RS (h:JS a fs P){b o:Nat} (e:a=some ⟨b,o,none⟩) (hb:b=P):fs=[]:=by
 rcases h with h | ⟨b',o',e',hn⟩
 ·exact h
 ·obtain ⟨h1,-⟩:b=b'∧o=o':=by simpa using e.symm.trans e'
  exact absurd (h1.symm.trans hb) hn
theorem LA.ret (h:LA w W P a cap fs c k cr fl dn lf ll ls) (ht:dA (fun i=>i=w.heap.size+1+1∨i=w.heap.size+1+1+1) W W'):kA W' a fs∧Below w.heap.size w W':=
 ⟨ZB h.F ht fun b o e hb=>by rcases hb with hb | hb;exact RS (oQ h.F h.RD) e hb;exact RS (JV h.F h.RL) e hb,h.B.trans (ht.below h.B.size fun i hi e=>by omega)⟩
theorem LA.put (h:LA w W w.heap.size a cap fs c k cr fl dn lf ll ls) (hf:kA W a' fs'):LA w ((((((W.setCell ⟨w.heap.size,0,none⟩ (.slice a' fs'.length cap')).setCell ⟨w.heap.size,1,none⟩ (.int .i64 c')).setCell ⟨w.heap.size,2,none⟩ (.int .i64 k')).setCell ⟨w.heap.size,3,none⟩ (.int .i64 cr')).setCell ⟨w.heap.size,4,none⟩ (.int .i64 fl')).setCell ⟨w.heap.size,5,none⟩ (.bool dn')) w.heap.size a' cap' fs' c' k' cr' fl' dn' lf ll ls:=
 ⟨fW h.D,h.L.but (iH _ _ _ _ _ _) (by omega),h.RD.but (iH _ _ _ _ _ _) (by omega),h.RL.but (iH _ _ _ _ _ _) (by omega),hf.apart (oQ hf h.D) (iH _ _ _ _ _ _),h.B.trans ((dA.but (iH _ _ _ _ _ _)).below h.B.size fun i hi e=>by omega)⟩
theorem LA.putP (h:LA w W P a cap fs c k cr fl dn lf ll ls) (hP:w.heap.size+1+1+1<P) (hf:kA W a' fs'):LA w ((((((W.setCell ⟨P,0,none⟩ (.slice a' fs'.length cap')).setCell ⟨P,1,none⟩ (.int .i64 c')).setCell ⟨P,2,none⟩ (.int .i64 k')).setCell ⟨P,3,none⟩ (.int .i64 cr')).setCell ⟨P,4,none⟩ (.int .i64 fl')).setCell ⟨P,5,none⟩ (.bool dn')) P a' cap' fs' c' k' cr' fl' dn' lf ll ls:=
 ⟨fW h.D,h.L.but (iH _ _ _ _ _ _) (by omega),h.RD.but (iH _ _ _ _ _ _) (by omega),h.RL.but (iH _ _ _ _ _ _) (by omega),hf.apart (oQ hf h.D) (iH _ _ _ _ _ _),h.B.trans ((dA.but (iH _ _ _ _ _ _)).below h.B.size fun i hi e=>by omega)⟩
theorem LA.log (h:LA w W P a cap fs c k cr fl dn lf ll ls) (hP:P≠w.heap.size+1) (hb:bE (w.heap.size+1) W W'){ll' ls':Int} (hL:lA W' (w.heap.size+1) #[.int .i64 lf,.int .i64 ll',.int .i64 ls'] 40):LA w W' P a cap fs c k cr fl dn lf ll' ls':=
 ⟨h.D.but hb hP,hL,h.RD.but hb (by omega),h.RL.but hb (by omega),h.F.apart (JV h.F h.L) hb,h.B.trans ((dA.but hb).below h.B.size fun i hi e=>by omega)⟩
def PX (w3:World) (P:Nat) (fs:List eA) (c k cr fl:Int) (dn:Bool) (wx:World):Prop:=∃a cap,w3.heap.size≤P∧lA wx P #[.slice a fs.length cap,.int .i64 c,.int .i64 k,.int .i64 cr,.int .i64 fl,.bool dn] 39∧kA wx a fs∧Below w3.heap.size w3 wx
theorem aNd {B P:Nat}{v0 v1 v2 v3 v4 v5:Value} (h:Below B w W) (hP:B≤P):Below B w ((((((W.setCell ⟨P,0,none⟩ v0).setCell ⟨P,1,none⟩ v1).setCell ⟨P,2,none⟩ v2).setCell ⟨P,3,none⟩ v3).setCell ⟨P,4,none⟩ v4).setCell ⟨P,5,none⟩ v5):=(((((h.setCell hP _).setCell hP _).setCell hP _).setCell hP _).setCell hP _).setCell hP _
theorem aKj {w3:World} (hf:kA W a fs) (hb:Below w3.heap.size w3 W):PX w3 W.heap.size fs c k cr fl dn (W.alloc (.cells #[.slice a fs.length cap,.int .i64 c,.int .i64 k,.int .i64 cr,.int .i64 fl,.bool dn] 39)):=⟨a,cap,hb.size,sQ _ _ _,hf.later (bA _ _),rA hb (bA _ _)⟩
theorem aKk {w3:World} (hf:kA W a fs) (hb:Below w3.heap.size w3 W) (hP:w3.heap.size≤P) (hz:lA W P #[.slice none 0 0,.int .i64 0,.int .i64 0,.int .i64 0,.int .i64 0,.bool false] 39):PX w3 P fs c k cr fl dn ((((((W.setCell ⟨P,0,none⟩ (.slice a fs.length cap)).setCell ⟨P,1,none⟩ (.int .i64 c)).setCell ⟨P,2,none⟩ (.int .i64 k)).setCell ⟨P,3,none⟩ (.int .i64 cr)).setCell ⟨P,4,none⟩ (.int .i64 fl)).setCell ⟨P,5,none⟩ (.bool dn)):=
 ⟨a,cap,hP,fW hz,hf.apart (XY hf hz) (iH _ _ _ _ _ _),hb.trans ((dA.but (iH _ _ _ _ _ _)).below hb.size fun i hi e=>by omega)⟩
theorem QK {D:cE}{op:lO} (h:IL D.fs) (hn:op.name.size≤maxLen) (ht:op.to.size≤maxLen) (hd:op.data.size≤1048576):∃fs c k cr fl dn x,xD D op=(⟨fs,c,k,cr,fl,dn⟩,x)∧IL fs∧DJ D op ⟨fs,c,k,cr,fl,dn⟩ x:=
 ⟨_,_,_,_,_,_,_,rfl,sW h hn ht,aPg h hn ht hd⟩
end
theorem WT (a:Option Addr) (cap:Nat) (fs:List eA) (c k cr fl:Int) (dn:Bool) (lf ll ls:Int) (p:ByteArray) (most:Int) (w:World) (hf:kA w a fs) (hfit:IL fs) (hp:p.size≤1100000):
 Calls Tryz.prog 24 #[.agg #[.slice a fs.length cap,.int .i64 c,.int .i64 k,.int .i64 cr,.int .i64 fl,.bool dn],.agg #[.int .i64 lf,.int .i64 ll,.int .i64 ls],.string p,.int .i64 most] w fun e w'=>
  ∃a' cap',e=.returned (aPq (yC ⟨fs,c,k,cr,fl,dn⟩ ⟨lf,ll,ls⟩ p most) a' cap')∧kA w' a' (yC ⟨fs,c,k,cr,fl,dn⟩ ⟨lf,ll,ls⟩ p most).1.fs∧Below w.heap.size w w':=by
 obtain ⟨R,hR⟩:∃R,yC ⟨fs,c,k,cr,fl,dn⟩ ⟨lf,ll,ls⟩ p most=R:=⟨_,rfl⟩
 rw [hR];have HF:=iA hf;have HFIT:=iA hfit;have HP:Hid (p.size≤maxLen):=by show _≤_;unfold maxLen;omega
 have hlen:=hfit.len;have hSZ:(mD p).size≤60008:=by
  unfold mD;split
  ·rw [ByteArray.size_append,ByteArray.size_append,yB,yB];omega
  ·simp
 obtain ⟨F,hFr⟩:∃F,mD p=F:=⟨_,rfl⟩
 rw [hFr] at hSZ;have HR0:=iA (fun h1 h2 h3 h4 D1 x=>hR ▸ @XZ ⟨fs,c,k,cr,fl,dn⟩ D1 ⟨lf,ll,ls⟩ p F most x hFr h1 h2 h3 h4);have hcs:((mI ⟨lf,ll,ls⟩=false∨mI ⟨lf,ll,ls⟩=true∧mA most 1 1000000000=false)∧R=(⟨fs,c,k,cr,fl,dn⟩,⟨lf,ll,ls⟩,21)∨mI ⟨lf,ll,ls⟩=true∧mA most 1 1000000000=true∧F.toList.isEmpty=true∧R=(⟨fs,c,k,cr,fl,dn⟩,⟨lf,ll,ls⟩,22))∨
  mI ⟨lf,ll,ls⟩=true∧mA most 1 1000000000=true∧F.toList.isEmpty=false∧¬(mI ⟨lf,ll,ls⟩ &&mA most 1 1000000000)=false∧¬mD p=ByteArray.empty∧((ls≠0∧most<ls+F.size)→ll=999999→R=(⟨fs,c,k,cr,fl,dn⟩,⟨lf,ll,ls⟩,23))∧(¬(ls≠0∧most<ls+F.size)→R=gF ⟨fs,c,k,cr,fl,dn⟩ ⟨lf,ll,ls⟩ F):=by
  rw [←hR];unfold yC;rw [hFr];cases hlb:mI ⟨lf,ll,ls⟩<;>cases hmb:mA most 1 1000000000<;>simp
  by_cases hE:F=ByteArray.empty
  ·exact Or.inl ⟨by simpa using aCw.2 hE,by simp [hE]⟩
  ·exact Or.inr ⟨by simpa using GU.2 hE,hE,fun h1 h2 h3=>by simp [hE,h1,h2,h3],fun h=>by rw [if_neg hE,if_neg (by intro x;have:=h x.1;omega)]⟩
 have HCS:=iA hcs;clear hf hfit hcs hR;go_enter Tryz.func24,Tryz.ntmps24;go_wp2_with fail;refine (JL p _ HP.out).mono ?_;rintro e w1 ⟨rfl,hb1⟩;rw [hFr] at *;obtain ⟨hD,hL,hRD,hRL,hbel⟩:=LB hb1;obtain ⟨a1,cap1,W2,hrun,hfi,hb2,hap⟩:=SQ w1 a cap fs (HF.out.later hbel) hlen;have HRUN:=iA hrun;have HFI:=iA hfi;have A:=iA (LA.later ⟨hD,hL,hRD,hRL,HF.out.later hbel,hbel⟩ hb2);obtain ⟨x0,-⟩:=hD.c6;have hlt:=aA hRL;have hn2:¬w.heap.size=w1.heap.size:=by omega
 have hn3:w.heap.size<w1.heap.size:=by omega
 clear hb1 hD hL hRD hRL hbel hrun hfi hb2 hap;obtain ⟨⟨d0,-⟩,-,-,-,y0,-⟩:=A.out.cells;go_upto_region 2 with fail;go_cut [11] (fun s11 wx=>s11=.string F∧∃a1 cap1,LA w wx w.heap.size a1 cap1 fs c k cr fl dn lf ll ls)
 case first=>
  go_wp2_with (at_builtin;refine Lib.wpList_append_run _ rfl _ _ _ _ rfl _ _ rfl rfl _ _ HRUN.out ?_);go_meet;have hbut:bE w.heap.size W2 (W2.setCell ⟨w.heap.size,0,none⟩ (.slice a1 fs.length cap1)):=(bE.refl _ _).setCell 0 _;have h0:=A.out.D.set 0 (.slice a1 fs.length cap1);exact ⟨rfl,a1,cap1,by simpa using h0,A.out.L.but hbut (by omega),A.out.RD.but hbut (by omega),A.out.RL.but hbut (by omega),HFI.out.apart (oQ HFI.out A.out.D) hbut,A.out.B.setCell (Nat.le_refl _) _⟩
 clear A d0 y0 x0 hlt hn2 hn3 HRUN HFI;obtain ⟨rfl,a1,cap1,hA⟩:=hcut;rename World=>w2;have A:=iA hA;clear hA;obtain ⟨⟨d0,d1,d2,d3,d4,d5⟩,⟨l0,l1,l2⟩,⟨r0,r1,r2,r3,r4,r5⟩,⟨s0,s1,s2⟩,yd,yl,yr,yx,hlt⟩:=A.out.cells;rcases HCS.out with hr | ⟨hlb,hmb,hEb,hC1,hNE,h23,hT⟩
 ·rcases hr with ⟨h1 | ⟨h1,h2⟩,E⟩ | ⟨h1,h2,h3,E⟩
  all_goals
   have E:=iA E;clear HR0 HCS;go_wp2_with (first
    | (go_at_call 60;refine (VD (L:=⟨lf,ll,ls⟩) (by assumption) _).mono ?_;rintro e w3 ⟨rfl,hb3⟩;replace A:=iA (A.out.later hb3);clear hb3 d0 d1 d2 d3 d4 d5 l0 l1 l2 r0 r1 r2 r3 r4 r5 s0 s1 s2 yd yl yr yx hlt;obtain ⟨⟨d0,d1,d2,d3,d4,d5⟩,⟨l0,l1,l2⟩,⟨r0,r1,r2,r3,r4,r5⟩,⟨s0,s1,s2⟩,yd,yl,yr,yx,hlt⟩:=A.out.cells)
    | (go_at_call 22;refine (gC (by assumption) _).mono ?_;rintro e w' ⟨rfl,hw⟩;replace hw:=hw.symm;subst hw))
   go_region
   go_wp2;refine bodyPost_ret (v:=?_) (by simp [results,Tryz.results24,go_sem,r0,r1,r2,r3,r4,r5,s0,s1,s2];rfl) rfl ?_;rw [E.out];refine ⟨a1,cap1,rfl,A.out.ret ?_⟩;repeat (first | with_reducible exact dA.refl _ _ | with_reducible refine dA.drew ?_ | with_reducible refine dA.setCell ?_ (Or.inl (by simp)) _ _)
 have HN:=iA (⟨hC1,hNE,h23,hT⟩:_∧_∧_∧_);have hlb2:=hlb;simp only [mI,mA,Bool.and_eq_true,decide_eq_true_eq] at hlb2;obtain ⟨⟨⟨hl1,hl2⟩,-⟩,hl3,hl4⟩:=hlb2;obtain ⟨hm1,hm2⟩:1≤most∧most≤1000000000:=by simpa [mA] using hmb
 clear HCS hC1 hNE h23 hT;go_upto_region 7 with (first
  | (go_at_call 60;refine (VD (L:=⟨lf,ll,ls⟩) (by assumption) _).mono ?_;rintro e w3 ⟨rfl,hb3⟩;replace A:=iA (A.out.later hb3);clear d0 d1 d2 d3 d4 d5 l0 l1 l2 r0 r1 r2 r3 r4 r5 s0 s1 s2 yd yl yr yx hlt hb3;obtain ⟨⟨d0,d1,d2,d3,d4,d5⟩,⟨l0,l1,l2⟩,⟨r0,r1,r2,r3,r4,r5⟩,⟨s0,s1,s2⟩,yd,yl,yr,yx,hlt⟩:=A.out.cells)
  | (go_at_call 22;refine (gC (by assumption) _).mono ?_;rintro e w' ⟨rfl,hw⟩;replace hw:=hw.symm;subst hw))
 go_cut [48] (fun s48 wx=>s48=.bool (decide (ls≠0∧most<ls+F.size))∧wx=w3)
 case first=>
  have h3:(ls==0)=true∧(ls != 0)=false∧decide (ls≠0∧most<ls+F.size)=false∨(ls==0)=false∧(ls != 0)=true∧(most<ls+F.size∧decide (ls≠0∧most<ls+F.size)=true∨¬most<ls+F.size∧decide (ls≠0∧most<ls+F.size)=false):=by
   by_cases h0:ls=0
   ·left;simp [h0]
   ·right;by_cases hm:most<ls+F.size<;>simp [h0,hm]
  rcases h3 with ⟨x1,x2,HD⟩ | ⟨x1,x2,⟨x3,HD⟩ | ⟨x3,HD⟩⟩
  all_goals
   have HD:=iA HD;go_wp2;go_meet;exact ⟨by rw [HD.out],rfl⟩
 obtain ⟨rfl,hw⟩:=hcut;subst hw;rename World=>w3;clear d0 d1 d2 d3 d4 d5 l0 l1 l2 r0 r1 r2 r3 r4 r5 s0 s1 s2 yd yl yr yx hlt;go_upto_if 48 with fail;go_cut [12,13] (fun _ _ wx=>∃(fs9:List eA) (c9 k9 cr9 fl9:Int) (dn9:Bool) (ll9 ls9:Int) (a9:Option Addr) (cap9:Nat),LA w wx w.heap.size a9 cap9 fs9 c9 k9 cr9 fl9 dn9 lf ll9 ls9∧IL fs9∧1≤ll9∧ll9≤999999∧0≤ls9∧ls9≤1000000000∧Hid (R=gF ⟨fs9,c9,k9,cr9,fl9,dn9⟩ ⟨lf,ll9,ls9⟩ F))
 case first=>
  by_cases hb:ls≠0∧most<ls+F.size
  ·have HBT:=iA hb;rw [decide_eq_true hb];clear hb;obtain ⟨⟨d0,d1,d2,d3,d4,d5⟩,⟨l0,l1,l2⟩,⟨r0,r1,r2,r3,r4,r5⟩,⟨s0,s1,s2⟩,yd,yl,yr,yx,hlt⟩:=A.out.cells;by_cases hend:ll=999999
   ·have E:=iA (HN.out.2.2.1 HBT.out hend);have hendb:(ll==999999)=true:=by simpa using hend
    clear hend;go_wp2_with fail;go_region
    go_wp2;refine bodyPost_ret (v:=?_) (by simp [results,Tryz.results24,go_sem,r0,r1,r2,r3,r4,r5,s0,s1,s2];rfl) rfl ?_;rw [E.out];refine ⟨_,_,rfl,A.out.ret ?_⟩;repeat (first | with_reducible exact dA.refl _ _ | with_reducible refine dA.drew ?_ | with_reducible refine dA.setCell ?_ (Or.inl (by simp)) _ _)
   ·have hendb:(ll==999999)=false:=by simpa using hend
    have hl5:ll+1≤999999:=by omega
    have hwr:IntKind.i64.wrap (ll+1)=ll+1:=by rw [IntKind.wrap_i64];omega
    obtain ⟨fs1,c1,k1,cr1,fl1,dn1,code1,hst,hfit1,hs1⟩:=QK (D:=⟨fs,c,k,cr,fl,dn⟩) (op:=sG (ll+1)) HFIT.out (by have:=eQ (ll+1);unfold maxLen;show (gL (ll+1)).size≤_;omega) (by show (0:Nat)≤_;omega) (by show (0:Nat)≤_;omega);have EN:=iA (HR0.out HN.out.1 HN.out.2.1 HBT.out hend _ _ hst);have HFIT1:=iA hfit1;have HST1:Hid (DJ _ ⟨1,gL (ll+1),⟨#[]⟩,⟨#[]⟩,0⟩ _ _):=hs1;clear hst hfit1 hs1 hend d0 d1 d2 d3 d4 d5 l0 l1 l2 r0 r1 r2 r3 r4 r5 s0 s1 s2 yd yl yr yx hlt;obtain ⟨⟨d0,d1,d2,d3,d4,d5⟩,⟨l0,l1,l2⟩,⟨r0,r1,r2,r3,r4,r5⟩,⟨s0,s1,s2⟩,yd,yl,yr,yx,hlt⟩:=A.out.cells;clear r0 r1 r2 r3 r4 r5 s0 s1 s2 yr yx;go_upto_region 10 with fail;go_cut [12,13] (fun sa sb wx=>∃P,sa=.pointer (some ⟨P,0,none⟩)∧sb=.int .i64 (code1:Nat)∧PX w3 P fs1 c1 k1 cr1 fl1 dn1 wx)
    case first=>
     have HK:=iA (fun w' (h:Below w3.heap.size w3 w')=>(⟨(A.out.D.later h).c6,(A.out.L.later h).c3⟩:_∧_));go_region_held3 (fun w'=>(w'.cell? ⟨w.heap.size,0,none⟩=some (.slice a1 fs.length cap1)∧w'.cell? ⟨w.heap.size,1,none⟩=some (.int .i64 c)∧w'.cell? ⟨w.heap.size,2,none⟩=some (.int .i64 k)∧w'.cell? ⟨w.heap.size,3,none⟩=some (.int .i64 cr)∧w'.cell? ⟨w.heap.size,4,none⟩=some (.int .i64 fl)∧w'.cell? ⟨w.heap.size,5,none⟩=some (.bool dn))∧w'.cell? ⟨w.heap.size+1,0,none⟩=some (.int .i64 lf)∧w'.cell? ⟨w.heap.size+1,1,none⟩=some (.int .i64 ll)∧w'.cell? ⟨w.heap.size+1,2,none⟩=some (.int .i64 ls))
      (first | go_keep | with_reducible exact HK.out _ (aNd k3 (Nat.le_refl _)) | with_reducible exact HK.out _ (aNd k3 k2.size) | with_reducible exact HK.out _ k3 | with_reducible exact HK.out _ k2 | with_reducible exact HK.out _ (rA k2 (bA _ _)) | with_reducible exact HK.out _ ((bA _ _).drew) | with_reducible exact HK.out _ (rA k3 (bA _ _)))
      (first
      | (go_at_call 62;refine (yS _ _).mono ?_;rintro e v2 ⟨rfl,hb2⟩;have k2:Below w3.heap.size w3 v2:=(by first | with_reducible exact rA (Below.refl _ _).drew hb2 | with_reducible exact rA ((bA _ _).drew) hb2);have c2:=HK.out _ k2;(first | (have hz:=pO hb2) | skip))
      | (go_at_call 61;refine (HST1.out _ _ _ (A.out.F.later (by first | with_reducible exact k2 | with_reducible exact rA k2 (bA _ _)))).mono ?_;rintro e v3 ⟨a2,cap2,rfl,how,hb3⟩;have HOW:=iA how;have k3:Below w3.heap.size w3 v3:=(by first | with_reducible exact rA k2 hb3 | with_reducible exact rA (rA k2 (bA _ _)) hb3);have c3:=HK.out _ k3;(first | (have hz:=hz.later hb3) | (have hz:lA _ v2.heap.size _ _:=gW hb3) | skip);(try (obtain ⟨q0,q1,q2,q3,q4,q5⟩:=hz.c6;have f0:=hz.free))))
     all_goals (go_wp2_with fail;go_meet)
     all_goals first
      | with_reducible exact ⟨_,rfl,rfl,aKj HOW.out k3⟩
      | exact ⟨_,rfl,rfl,aKk HOW.out k3 (by first | exact Nat.le_refl _ | exact k2.size) hz⟩
    obtain ⟨P,rfl,rfl,a2,cap2,hP,hPB,hf2,hb4⟩:=hcut;rename World=>w4;replace A:=iA (A.out.later hb4);have hN3:w.heap.size+1+1+1<P:=by omega
    have F4:=iA hf2;clear d0 d1 d2 d3 d4 d5 l0 l1 l2 yd yl hlt;obtain ⟨⟨d0,d1,d2,d3,d4,d5⟩,⟨l0,l1,l2⟩,⟨r0,r1,r2,r3,r4,r5⟩,⟨s0,s1,s2⟩,yd,yl,yr,yx,hlt⟩:=A.out.cells;obtain ⟨x0,x1,x2,x3,x4,x5⟩:=hPB.c6;clear hPB hf2 hb4;go_upto_region 11 with fail;go_cut [] (fun wx=>LA w wx w.heap.size a2 cap2 fs1 c1 k1 cr1 fl1 dn1 lf ll ls)
    case first=>
     go_wp2_with fail;go_meet;exact A.out.put F4.out
    rename World=>w5;replace A:=iA hcut;clear hcut x0 x1 x2 x3 x4 x5 F4 d0 d1 d2 d3 d4 d5 l0 l1 l2 r0 r1 r2 r3 r4 r5 s0 s1 s2 yd yl yr yx hlt;obtain ⟨⟨d0,d1,d2,d3,d4,d5⟩,⟨l0,l1,l2⟩,⟨r0,r1,r2,r3,r4,r5⟩,⟨s0,s1,s2⟩,yd,yl,yr,yx,hlt⟩:=A.out.cells;by_cases hc:code1=0
    ·have hcb:((code1:Int) != 0)=false:=by simp [hc]
     have E:Hid (R=gF ⟨fs1,c1,k1,cr1,fl1,dn1⟩ ⟨lf,ll+1,0⟩ F):=by show _=_;rw [EN.out,if_neg (by simp [hc])]
     clear hc;go_wp2_with fail;go_meet;have hLn:=(A.out.L.set 1 (.int .i64 (ll+1))).set 2 (.int .i64 0);exact ⟨fs1,c1,k1,cr1,fl1,dn1,ll+1,0,a2,cap2,A.out.log (by omega) (((bE.refl _ _).setCell 1 _).setCell 2 _) (by simpa using hLn),HFIT1.out,by omega,hl5,by omega,by omega,E⟩
    ·have hcb:((code1:Int) != 0)=true:=by simpa using hc
     have E:Hid (R=(⟨fs1,c1,k1,cr1,fl1,dn1⟩,⟨lf,ll,ls⟩,code1)):=by show _=_;rw [EN.out,if_pos hc]
     clear hc;go_wp2_with fail;go_region
     go_wp2;refine bodyPost_ret (v:=?_) (by simp [results,Tryz.results24,go_sem,r0,r1,r2,r3,r4,r5,s0,s1,s2];rfl) rfl ?_;rw [E.out];refine ⟨_,_,rfl,A.out.ret ?_⟩;repeat (first | with_reducible exact dA.refl _ _ | with_reducible refine dA.drew ?_ | with_reducible refine dA.setCell ?_ (Or.inl (by simp)) _ _)
  ·have E:=iA (HN.out.2.2.2 hb);rw [decide_eq_false hb];clear hb;go_wp2_with fail;go_meet;exact ⟨fs,c,k,cr,fl,dn,ll,ls,a1,cap1,A.out,HFIT.out,hl1,hl2,hl3,hl4,E⟩
 clear A HFIT;obtain ⟨fs9,c9,k9,cr9,fl9,dn9,ll9,ls9,a9,cap9,hA,hfit9,h91,h92,h93,h94,E9⟩:=hcut;rename World=>w9;have A:=iA hA;obtain ⟨fs6,c6,k6,cr6,fl6,dn6,code6,hst,hfit6,hs6⟩:=QK (D:=⟨fs9,c9,k9,cr9,fl9,dn9⟩) (op:=pF ll9 F) hfit9 (by have:=eQ (ll9);unfold maxLen;show (gL (ll9)).size≤_;omega) (by show (0:Nat)≤_;omega) (by show F.size≤_;omega);have HST6:Hid (DJ _ ⟨2,gL ll9,⟨#[]⟩,F,0⟩ _ _):=hs6;have HS6:=iA hst;have HFIT6:=iA hfit6;clear hst hfit6 hs6 hA hfit9 HR0 HN;obtain ⟨⟨d0,d1,d2,d3,d4,d5⟩,⟨l0,l1,l2⟩,⟨r0,r1,r2,r3,r4,r5⟩,⟨s0,s1,s2⟩,yd,yl,yr,yx,hlt⟩:=A.out.cells;clear r0 r1 r2 r3 r4 r5 s0 s1 s2 yr yx;go_upto_region 16 with fail;go_cut [14,15] (fun sa sb wx=>∃P,sa=.pointer (some ⟨P,0,none⟩)∧sb=.int .i64 (code6:Nat)∧PX w9 P fs6 c6 k6 cr6 fl6 dn6 wx)
 case first=>
  have HK:=iA (fun w' (h:Below w9.heap.size w9 w')=>(⟨(A.out.D.later h).c6,(A.out.L.later h).c3⟩:_∧_));go_region_held3 (fun w'=>(w'.cell? ⟨w.heap.size,0,none⟩=some (.slice a9 fs9.length cap9)∧w'.cell? ⟨w.heap.size,1,none⟩=some (.int .i64 c9)∧w'.cell? ⟨w.heap.size,2,none⟩=some (.int .i64 k9)∧w'.cell? ⟨w.heap.size,3,none⟩=some (.int .i64 cr9)∧w'.cell? ⟨w.heap.size,4,none⟩=some (.int .i64 fl9)∧w'.cell? ⟨w.heap.size,5,none⟩=some (.bool dn9))∧w'.cell? ⟨w.heap.size+1,0,none⟩=some (.int .i64 lf)∧w'.cell? ⟨w.heap.size+1,1,none⟩=some (.int .i64 ll9)∧w'.cell? ⟨w.heap.size+1,2,none⟩=some (.int .i64 ls9))
   (first | go_keep | with_reducible exact HK.out _ (aNd k3 (Nat.le_refl _)) | with_reducible exact HK.out _ (aNd k3 k2.size) | with_reducible exact HK.out _ k3 | with_reducible exact HK.out _ k2 | with_reducible exact HK.out _ (rA k2 (bA _ _)) | with_reducible exact HK.out _ ((bA _ _).drew) | with_reducible exact HK.out _ (rA k3 (bA _ _)))
   (first
   | (go_at_call 62;refine (yS _ _).mono ?_;rintro e v2 ⟨rfl,hb2⟩;have k2:Below w9.heap.size w9 v2:=(by first | with_reducible exact rA (Below.refl _ _).drew hb2 | with_reducible exact rA ((bA _ _).drew) hb2);have c2:=HK.out _ k2;(first | (have hz:=pO hb2) | skip))
   | (go_at_call 61;refine (HST6.out _ _ _ (A.out.F.later (by first | with_reducible exact k2 | with_reducible exact rA k2 (bA _ _)))).mono ?_;rintro e v3 ⟨a2,cap2,rfl,how,hb3⟩;have HOW:=iA how;have k3:Below w9.heap.size w9 v3:=(by first | with_reducible exact rA k2 hb3 | with_reducible exact rA (rA k2 (bA _ _)) hb3);have c3:=HK.out _ k3;(first | (have hz:=hz.later hb3) | (have hz:lA _ v2.heap.size _ _:=gW hb3) | skip);(try (obtain ⟨q0,q1,q2,q3,q4,q5⟩:=hz.c6;have f0:=hz.free))))
  all_goals (go_wp2_with fail;go_meet)
  all_goals first
   | with_reducible exact ⟨_,rfl,rfl,aKj HOW.out k3⟩
   | exact ⟨_,rfl,rfl,aKk HOW.out k3 (by first | exact Nat.le_refl _ | exact k2.size) hz⟩
 obtain ⟨P,rfl,rfl,a6,cap6,hP,hPB,hf6,hb10⟩:=hcut;rename World=>w10;have hN3:w.heap.size+1+1+1<P:=by omega
 have hA:LA w w10 P a6 cap6 fs6 c6 k6 cr6 fl6 dn6 lf ll9 ls9:=⟨hPB,A.out.L.later hb10,A.out.RD.later hb10,A.out.RL.later hb10,hf6,rA A.out.B hb10⟩
 replace A:=iA hA;clear hA hPB hf6 hb10 d0 d1 d2 d3 d4 d5 l0 l1 l2 yd yl hlt;obtain ⟨⟨d0,d1,d2,d3,d4,d5⟩,⟨l0,l1,l2⟩,⟨r0,r1,r2,r3,r4,r5⟩,⟨s0,s1,s2⟩,yd,yl,yr,yx,hlt⟩:=A.out.cells;by_cases hc:code6=0
 ·have hcb:((code6:Int) != 0)=false:=by simp [hc]
  obtain ⟨fs7,c7,k7,cr7,fl7,dn7,code7,hst,-,hs7⟩:=QK (D:=⟨fs6,c6,k6,cr6,fl6,dn6⟩) (op:=cO ll9) HFIT6.out (by have:=eQ (ll9);unfold maxLen;show (gL (ll9)).size≤_;omega) (by show (0:Nat)≤_;omega) (by show (0:Nat)≤_;omega);have HST7:Hid (DJ _ ⟨3,gL ll9,⟨#[]⟩,⟨#[]⟩,0⟩ _ _):=hs7;have ET:=iA (E9.out.trans (qQ HS6.out hc hst));clear hc hst hs7;go_upto_region 19 with fail;go_cut [15] (fun sb wx=>sb=.int .i64 (code7:Nat)∧∃a7 cap7,LA w wx P a7 cap7 fs7 c7 k7 cr7 fl7 dn7 lf ll9 ls9)
  case first=>
   go_region_with (first
    | (go_at_call 62;refine (yS _ _).mono ?_;rintro e v2 ⟨rfl,hb2⟩;have A2:=iA (A.out.later (rA (Below.refl _ _).drew hb2));obtain ⟨⟨x0,x1,x2,x3,x4,x5⟩,-⟩:=A2.out.cells)
    | (go_at_call 61;refine (HST7.out _ _ _ A2.out.F).mono ?_;rintro e v3 ⟨a7,cap7,rfl,how,hb3⟩;have HOW:=iA how;have A3:=iA (A2.out.later hb3);obtain ⟨⟨q0,q1,q2,q3,q4,q5⟩,-,-,-,f0,-⟩:=A3.out.cells))
   all_goals
    go_wp2_with fail;go_meet;exact ⟨rfl,a7,cap7,A3.out.putP (by omega) HOW.out⟩
  obtain ⟨rfl,a7,cap7,hA⟩:=hcut;rename World=>w11;replace A:=iA hA;clear hA d0 d1 d2 d3 d4 d5 l0 l1 l2 r0 r1 r2 r3 r4 r5 s0 s1 s2 yd yl yr yx hlt;obtain ⟨⟨d0,d1,d2,d3,d4,d5⟩,⟨l0,l1,l2⟩,⟨r0,r1,r2,r3,r4,r5⟩,⟨s0,s1,s2⟩,yd,yl,yr,yx,hlt⟩:=A.out.cells;by_cases hc7:code7=0
  ·have hcb7:((code7:Int)==0)=true:=by simp [hc7]
   have E:Hid (R=(⟨fs7,c7,k7,cr7,fl7,dn7⟩,⟨lf,ll9,ls9+F.size⟩,code7)):=by show _=_;rw [ET.out,if_neg (by simp [hc7]),hc7]
   clear hc7;go_upto_region 21 with fail;go_cut [] (fun wx=>LA w wx P a7 cap7 fs7 c7 k7 cr7 fl7 dn7 lf ll9 (ls9+F.size))
   case first=>
    go_wp2_with fail;go_meet;have hLn:=A.out.L.set 2 (.int .i64 (ls9+F.size));exact A.out.log (by omega) ((bE.refl _ _).setCell 2 _) (by simpa using hLn)
   rename World=>w12;replace A:=iA hcut;clear hcut d0 d1 d2 d3 d4 d5 l0 l1 l2 r0 r1 r2 r3 r4 r5 s0 s1 s2 yd yl yr yx hlt;obtain ⟨⟨d0,d1,d2,d3,d4,d5⟩,⟨l0,l1,l2⟩,⟨r0,r1,r2,r3,r4,r5⟩,⟨s0,s1,s2⟩,yd,yl,yr,yx,hlt⟩:=A.out.cells;go_wp2_with fail;go_region
   go_wp2;refine bodyPost_ret (v:=?_) (by simp [results,Tryz.results24,go_sem,r0,r1,r2,r3,r4,r5,s0,s1,s2];rfl) rfl ?_;rw [E.out];refine ⟨_,_,rfl,A.out.ret ?_⟩;repeat (first | with_reducible exact dA.refl _ _ | with_reducible refine dA.drew ?_ | with_reducible refine dA.setCell ?_ (Or.inl (by simp)) _ _)
  ·have hcb7:((code7:Int)==0)=false:=by simpa using hc7
   have E:Hid (R=(⟨fs7,c7,k7,cr7,fl7,dn7⟩,⟨lf,ll9,ls9⟩,code7)):=by show _=_;rw [ET.out,if_pos hc7]
   clear hc7;go_wp2_with fail;go_region
   go_wp2;refine bodyPost_ret (v:=?_) (by simp [results,Tryz.results24,go_sem,r0,r1,r2,r3,r4,r5,s0,s1,s2];rfl) rfl ?_;rw [E.out];refine ⟨_,_,rfl,A.out.ret ?_⟩;repeat (first | with_reducible exact dA.refl _ _ | with_reducible refine dA.drew ?_ | with_reducible refine dA.setCell ?_ (Or.inl (by simp)) _ _)
 ·have hcb:((code6:Int) != 0)=true:=by simpa using hc
  have E:=iA (E9.out.trans (pQ HS6.out hc));clear hc;go_wp2_with fail;go_region
  go_wp2;refine bodyPost_ret (v:=?_) (by simp [results,Tryz.results24,go_sem,r0,r1,r2,r3,r4,r5,s0,s1,s2];rfl) rfl ?_;rw [E.out];refine ⟨_,_,rfl,A.out.ret ?_⟩;repeat (first | with_reducible exact dA.refl _ _ | with_reducible refine dA.drew ?_ | with_reducible refine dA.setCell ?_ (Or.inl (by simp)) _ _)
end Go.Proofs.YtcneojllbkacoaaGreatDoor
