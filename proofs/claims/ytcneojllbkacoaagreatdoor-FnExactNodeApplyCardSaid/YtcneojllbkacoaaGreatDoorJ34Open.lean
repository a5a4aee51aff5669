import Derived.Test.YtcneojllbkacoaaGreatDoorJ27SKept
import Derived.Test.YtcneojllbkacoaaGreatDoorJ28ICnt
import Derived.Test.YtcneojllbkacoaaGreatDoorJ29SSta
set_option maxRecDepth 100000
set_option maxHeartbeats 1000000
namespace Go.Proofs.YtcneojllbkacoaaGreatDoor
open Go.RowKit
def mJ (w:World) (A:Nat→Prop) (a:Option Addr) (ts:List cA):Prop:=
 ts=[]∨∃g o cur t T,a=some ⟨g,o,none⟩∧w.heap[g]?=some (.cells cur t (0,0))∧T g=0∧(∀x,T x≤2 * ts.length→A x)∧∀i (h:i<ts.length),pK w 0 T i g (o+i * 4) ts[i]
theorem mJ.tens {w:World}{A:Nat→Prop}{a:Option Addr}{ts:List cA} (h:mJ w A a ts):pB w a ts:=by
 rcases h with h | ⟨g,o,cur,t,T,rfl,hb,_,_,h⟩
 ·exact Or.inl h
 ·exact Or.inr ⟨g,o,rfl,aA hb,fun i hi=>(h i hi).at⟩
theorem mJ.turned {S A:Nat→Prop}{w w':World}{a:Option Addr}{ts:List cA} (h:mJ w A a ts) (ht:dA S w w') (hS:∀g,A g→g<w.heap.size→¬S g):mJ w' A a ts:=by
 rcases h with h | ⟨g,o,cur,t,T,rfl,hg,hT,hA,h⟩
 ·exact Or.inl h
 ·have hk:=ht.block g (aA hg) (hS g (hA g (by omega)) (aA hg));exact Or.inr ⟨g,o,cur,t,T,rfl,hk.trans hg,hT,hA,fun i hi=>(h i hi).keep (fun j _=>World.cell?_of_block hk) fun g' hg' _ hT'=>⟨ht.block g' hg' (hS g' (hA g' (by omega)) hg'),rfl⟩⟩
theorem mJ.later {w w':World}{A:Nat→Prop}{a:Option Addr}{ts:List cA} (h:mJ w A a ts) (hb:Below w.heap.size w w'):mJ w' A a ts:=h.turned (dA.of (S:=fun _=>False) hb) fun _ _ _ e=>e
theorem mJ.mono {w:World}{A A':Nat→Prop}{a:Option Addr}{ts:List cA} (h:mJ w A a ts) (hA:∀x,A x→A' x):mJ w A' a ts:=by
 rcases h with h | ⟨g,o,cur,t,T,e,hg,hT,h1,h⟩
 ·exact Or.inl h
 ·exact Or.inr ⟨g,o,cur,t,T,e,hg,hT,fun x hx=>hA x (h1 x hx),h⟩
theorem eB.toA {w:World}{B H:Nat}{a:Option Addr}{ts:List cA} (h:eB w B a ts) (hH:w.heap.size≤H):mJ w (fun x=>B≤x∧x<H) a ts:=by
 rcases h with h | ⟨g,o,cur,t,T,rfl,hB,hg,hT,h⟩
 ·exact Or.inl h
 ·have hlt:=aA hg;refine Or.inr ⟨g,o,cur,t,fun x=>if B≤x∧x<H then T x else 2 * ts.length+1,rfl,hg,?_,fun x hx=>?_,fun i hi=>?_⟩
  ·show (if _ then _ else _)=0;rw [if_pos ⟨hB,by omega⟩];exact hT
  ·by_cases hc:B≤x∧x<H
   ·exact hc
   ·simp only [if_neg hc] at hx;omega
  ·obtain ⟨a1,c1,a2,c2,h0,h1,h2,h3,h4,h5⟩:=h i hi;have hp:∀{n:Nat}{q:Option Addr}{ps:List gA},fC w B T n q ps→fC w 0 (fun x=>if B≤x∧x<H then T x else 2 * ts.length+1) n q ps:=fun hp=>by
    rcases hp with hp | ⟨g',o',cur',t',e,hB',hT',hb',hp⟩
    ·exact Or.inl hp
    ·have:=aA hb';exact Or.inr ⟨g',o',cur',t',e,Nat.zero_le _,by show (if _ then _ else _)=_;rw [if_pos ⟨hB',by omega⟩];exact hT',hb',hp⟩
   exact ⟨a1,c1,a2,c2,h0,h1,h2,h3,hp h4,hp h5⟩
def tF (w:World) (A:Nat→Prop) (a:Option Addr) (fs:List eA):Prop:=
 fs=[]∨∃g o cur t,a=some ⟨g,o,none⟩∧A g∧w.heap[g]?=some (.cells cur t (0,0))∧mQ w g o fs
theorem tF.files {w:World}{A:Nat→Prop}{a:Option Addr}{fs:List eA} (h:tF w A a fs):kA w a fs:=by
 rcases h with h | ⟨g,o,cur,t,rfl,_,hb,h⟩
 ·exact Or.inl h
 ·exact Or.inr ⟨g,o,rfl,aA hb,h⟩
theorem tF.turned {S A:Nat→Prop}{w w':World}{a:Option Addr}{fs:List eA} (h:tF w A a fs) (ht:dA S w w') (hS:∀g,A g→g<w.heap.size→¬S g):tF w' A a fs:=by
 rcases h with h | ⟨g,o,cur,t,rfl,hA,hg,h⟩
 ·exact Or.inl h
 ·have hk:=ht.block g (aA hg) (hS g hA (aA hg));have hc:∀j,w'.cell? ⟨g,j,none⟩=w.cell? ⟨g,j,none⟩:=fun j=>World.cell?_of_block hk;exact Or.inr ⟨g,o,cur,t,rfl,hA,hk.trans hg,fun i hi=>by simp only [hc];exact h i hi⟩
theorem tF.later {w w':World}{A:Nat→Prop}{a:Option Addr}{fs:List eA} (h:tF w A a fs) (hb:Below w.heap.size w w'):tF w' A a fs:=h.turned (dA.of (S:=fun _=>False) hb) fun _ _ _ e=>e
theorem tF.mono {w:World}{A A':Nat→Prop}{a:Option Addr}{fs:List eA} (h:tF w A a fs) (hA:∀x,A x→A' x):tF w A' a fs:=by
 rcases h with h | ⟨g,o,cur,t,e,q,h⟩
 ·exact Or.inl h
 ·exact Or.inr ⟨g,o,cur,t,e,hA g q,h⟩
theorem yE.toA {w:World}{B H:Nat}{a:Option Addr}{fs:List eA} (h:yE w B a fs) (hH:w.heap.size≤H):tF w (fun x=>B≤x∧x<H) a fs:=by
 rcases h with h | ⟨g,o,cur,t,e,hB,hg,h⟩
 ·exact Or.inl h
 ·have:=aA hg;exact Or.inr ⟨g,o,cur,t,e,⟨hB,by omega⟩,hg,h⟩
theorem tF.own {w:World}{A:Nat→Prop}{a:Option Addr}{fs:List eA} (h:tF w A a fs):fs=[]∨∃g o,a=some ⟨g,o,none⟩∧A g∧yE w g a fs:=by
 rcases h with h | ⟨g,o,cur,t,e,q,hg,h⟩
 ·exact Or.inl h
 ·exact Or.inr ⟨g,o,e,q,Or.inr ⟨g,o,cur,t,e,Nat.le_refl _,hg,h⟩⟩
theorem aFt (a:Option Addr) (cap:Nat) (ts:List cA) (k:Nat) (A:Nat→Prop) (w:World) (hk:0<k) (hk2:k+kB ts≤100000000) (h0:mJ w A a ts):
 Calls Tryz.prog 88 #[.slice a ts.length cap,.int .i64 (k:Int)] w fun e w'=>e=.returned (.int .i64 ((k+kB ts:Nat):Int))∧dA A w w'∧pB w' a (eE k ts):=by
 rcases h0 with rfl | ⟨g,o,cur,t,T,rfl,hg,hT,hA,h⟩
 ·refine (CM a cap k w).mono ?_;rintro e w' ⟨rfl,rfl⟩;exact ⟨jB (by simp [kB]),dA.refl _ _,Or.inl (by simp [eE])⟩
 ·refine (CL g o cap ts k 0 T cur t w hk hk2 (Nat.zero_le _) hg hT h).mono ?_;rintro e w' ⟨rfl,ht,c,hc,hm⟩;exact ⟨rfl,ht.mono fun x _ hx=>hA x hx.2,Or.inr ⟨g,o,rfl,aA hc,fun i hi=>(hm i hi).at⟩⟩
theorem aAb (now:Int) (a:Option Addr) (cap:Nat) (ts:List cA) (k:Nat) (A:Nat→Prop) (w:World) (hk:0<k) (hk2:k+kB ts≤100000000) (h0:mJ w A a ts):
 Calls Tryz.prog 43 #[.agg #[.int .i64 now,.slice a ts.length cap],.int .i64 (k:Int)] w fun e w'=>e=.returned (.int .i64 ((k+kB ts:Nat):Int))∧dA A w w'∧pB w' a (eE k ts):=by
 have HM:=iA (fun W (hW:Below w.heap.size w W)=>aFt a cap ts k A W hk hk2 (h0.later hW));clear h0;go_enter Tryz.func43,Tryz.ntmps43;go_wp2_with fail;refine (HM.out _ (bA _ _)).mono ?_;rintro e w1 ⟨rfl,ht,ho⟩;have HT:=iA (And.intro ((dA.of (bA _ _)).trans' ht) ho);clear ht ho;go_wp2;go_ret;exact ⟨rfl,HT.out.1,HT.out.2⟩
theorem aFs (a:Option Addr) (cap:Nat) (fs:List eA) (c k0 cr fl:Int) (dn:Bool) (k:Nat) (A:Nat→Prop) (w:World) (hk:0<k) (hk2:k+3 * fs.length≤100000000) (hf:tF w A a fs):
 Calls Tryz.prog 42 #[.agg #[.slice a fs.length cap,.int .i64 c,.int .i64 k0,.int .i64 cr,.int .i64 fl,.bool dn],.int .i64 (k:Int)] w fun e w'=>
  e=.returned (.int .i64 ((k+3 * fs.length:Nat):Int))∧dA A w w'∧tF w' A a (uM k fs.length):=by
 rcases hf.own with rfl | ⟨g,o,rfl,q,h⟩
 ·refine (gX a cap [] c k0 cr fl dn k 0 w hk hk2 (Or.inl rfl)).mono ?_;rintro e w' ⟨rfl,hm,_⟩;rcases hm with ⟨_,hm⟩ | ⟨hm,_⟩
  ·exact ⟨rfl,dA.of hm,Or.inl rfl⟩
  ·exact absurd hm (by simp)
 ·refine (gX _ cap fs c k0 cr fl dn k g w hk hk2 h).mono ?_;rintro e w' ⟨rfl,hm,ho⟩;refine ⟨rfl,?_,?_⟩
  ·rcases hm with ⟨_,hm⟩ | ⟨_,g',o',e,_,hm⟩
   ·exact dA.of hm
   ·simp only [Option.some.injEq,Addr.mk.injEq] at e;obtain ⟨rfl,_⟩:=e;exact (dA.but hm).mono fun x _ hx=>hx ▸ q
  ·rcases ho with ho | ⟨g',o',cur,t,e,_,hb,ho⟩
   ·exact Or.inl ho
   ·simp only [Option.some.injEq,Addr.mk.injEq] at e;obtain ⟨rfl,rfl,_⟩:=e;exact Or.inr ⟨g,o,cur,t,rfl,q,hb,ho⟩
def aMx (r:pC):Value:=.agg #[.int .i64 r.kind,.string r.tenant,.string r.text,.int .i64 r.num]
def fP (r:pC):Value:=if r.kind=1 then .iface 215 (.agg #[.int .i64 1,.string r.tenant,.string r.text]) else if r.kind=2 then .iface 217 (.agg #[.int .i64 2,.string ByteArray.empty,.int .i64 r.num]) else if r.kind=3 then .iface 219 (.agg #[.int .i64 3,.string r.tenant,.string r.text,.int .i64 r.num]) else .nilIface
def xP (r:pC):Bool:=decide (r.kind=1∨r.kind=2∨r.kind=3)
theorem dK (r:pC) (w:World):
 Calls Tryz.prog 112 #[aMx r] w fun e w'=>e=.returned (.tuple #[fP r,.bool (xP r)])∧Below w.heap.size w w':=by
 obtain ⟨ki,te,tx,nu⟩:=r;unfold aMx;by_cases h1:ki=1
 ·subst h1;go_enter Tryz.func112,Tryz.ntmps112;go_wp2;go_ret2;exact ⟨rfl,bA _ _⟩
 ·by_cases h2:ki=2
  ·subst h2;go_enter Tryz.func112,Tryz.ntmps112;go_wp2;go_ret2;exact ⟨rfl,bA _ _⟩
  ·by_cases h3:ki=3
   ·subst h3;go_enter Tryz.func112,Tryz.ntmps112;go_wp2;go_ret2;exact ⟨rfl,bA _ _⟩
   ·have E:Hid (fP ⟨ki,te,tx,nu⟩=.nilIface∧xP ⟨ki,te,tx,nu⟩=false):=⟨by unfold fP;simp [h1,h2,h3],by unfold xP;simp [h1,h2,h3]⟩
    go_enter Tryz.func112,Tryz.ntmps112;go_wp2;go_ret2;exact ⟨by rw [E.out.1,E.out.2];rfl,bA _ _⟩
theorem aN (ps:List gA) (k:Nat) (h:k<ps.length):ps[k].s.size≤bB ps:=by
 have h1:=gJ ps k h;have h2:=bL ps (k+1);omega
theorem kS {ts:List cA} (h:ts.length+nA ts≤1100000):aNz ts 1100000∧aPm ts∧True∧aHt ts:=by
 have hb:∀i (hi:i<ts.length),zC ts[i]≤1100000:=fun i hi=>by have:=oR ts i hi;omega
 have h1:∀i (hi:i<ts.length),ts[i].name.size≤1100000∧ts[i].mets.length≤1100000∧ts[i].sers.length≤1100000∧bB ts[i].mets≤1100000∧bB ts[i].sers≤1100000:=fun i hi=>by have:=hb i hi;unfold zC at this;omega
 have h2:∀i (hi:i<ts.length),(∀j (h':j<ts[i].mets.length),ts[i].mets[j].s.size≤1000000000)∧(∀j (h':j<ts[i].sers.length),ts[i].sers[j].s.size≤1000000000):=fun i hi=>
  ⟨fun j hj=>by have:=aN _ j hj;have:=h1 i hi;omega,fun j hj=>by have:=aN _ j hj;have:=h1 i hi;omega⟩
 refine ⟨fun i hi=>⟨?_,(h2 i hi).1,(h2 i hi).2,?_,?_,?_⟩,fun i hi=>⟨?_,(h2 i hi).1,(h2 i hi).2,?_,?_⟩,trivial,fun i hi=>⟨?_,?_⟩⟩<;>(have:=h1 i hi;unfold maxLen at *;omega)
end Go.Proofs.YtcneojllbkacoaaGreatDoor
namespace Go.Proofs.YtcneojllbkacoaaGreatDoor
open Go.ChangeShapes Go.WideShapes Go.ChangeAt Go.RowKit Go.Deep
theorem DY:Tryz.prog.cellsOf 140=3:=by kernel_rfl
theorem aDt:Tryz.prog.cellsOf 9=1:=by kernel_rfl
theorem aDp:Tryz.prog.cellsOf 3=1:=by kernel_rfl
theorem SF:Tryz.prog.cellsOf 24=1:=by kernel_rfl
section
variable {H:Type}{enc:TypeId×Value→H}{W:World}
theorem LX {fuel:Nat}{cs:List Value}{x:DataW H×List MemPlace} (h:DataW.trod enc Tryz.prog W 0 (fun _=>true) true fuel 140 cs=some x):
 ∃f:eA,cs=[.string f.name,.string f.data,.int .i64 f.synced]∧f.name.size≤maxLen∧f.data.size≤maxLen:=by
 obtain ⟨y0,y1,y2,n,_,hl,h0,h1,h2⟩:=trod_struct3 Tryz.underlying140 h;rw [DY] at hl;match cs,hl with
 | [c0,c1,c2],_=>
   simp [aDt,aDp] at h0 h1 h2;obtain ⟨s0,e0,_,z0⟩:=DataW.trod_string Tryz.underlying9 h0;obtain ⟨s1,e1,_,z1⟩:=DataW.trod_string Tryz.underlying9 h1;obtain ⟨i2,e2,_,_⟩:=DataW.trod_int Tryz.underlying3 h2;simp at e0 e1 e2;exact ⟨⟨s0,s1,i2⟩,by simp [e0,e1,e2],z0,z1⟩
theorem aAh {fuel:Nat}{v:Value}{x:DataW H×List MemPlace} (h:DataW.trod enc Tryz.prog W 0 (fun _=>true) true fuel 24 [v]=some x):
 ∃(a:Option Addr) (cap:Nat) (fs:List eA),v=.slice a fs.length cap∧kA W a fs∧qI fs∧fs.length≤maxLen:=by
 rcases open_slice Tryz.underlying24 h with ⟨hc,_⟩ | ⟨a,len,cap,m,n,D,Pl,hc,_,hl,hm,hmm,_,hx⟩
 ·simp at hc;exact ⟨none,0,[],by simpa using hc,Or.inl rfl,fun i h=>absurd h (by simp),by simp⟩
 ·simp at hc;simp only [if_true] at hmm;have hin:Inhabited eA:=⟨⟨ByteArray.empty,ByteArray.empty,0⟩⟩
  obtain ⟨b,o,spot⟩:=a;rw [DY] at hx;have hsp:0<len→spot=none:=fun h0=>by
   obtain ⟨cs',h1,h2⟩:=hx 0 (by omega);obtain ⟨f,rfl,_,_⟩:=LX h2;obtain ⟨_,_,hcell⟩:=World.cells?_some h1;have hc0:=hcell 0 (by omega);simp only [List.getElem?_cons_zero] at hc0;have:=World.cell?_spot hc0;simpa [Addr.add] using this
  obtain ⟨F,hF⟩:=choose_lt (α:=eA) (n:=len) (p:=fun i f=>W.cell? ⟨b,o+i * 3,none⟩=some (.string f.name)∧
   W.cell? ⟨b,o+i * 3+1,none⟩=some (.string f.data)∧W.cell? ⟨b,o+i * 3+2,none⟩=some (.int .i64 f.synced)∧f.name.size≤maxLen∧f.data.size≤maxLen) (fun i hi=>by
   obtain ⟨cs',h1,h2⟩:=hx i (by omega);obtain ⟨f,rfl,z0,z1⟩:=LX h2;obtain ⟨_,_,hcell⟩:=World.cells?_some h1;have hspot:=hsp (by omega);subst hspot;refine ⟨f,?_,?_,?_,z0,z1⟩
   ·simpa [add_plain] using hcell 0 (by omega)
   ·simpa [add_plain] using hcell 1 (by omega)
   ·simpa [add_plain] using hcell 2 (by omega))
  refine ⟨some ⟨b,o,spot⟩,cap,(List.range len).map F,by simp [hc],?_,?_,by simp;omega⟩
  ·by_cases h0:len=0
   ·subst h0;exact Or.inl rfl
   ·have hs:=hsp (by omega);subst hs;have hlt:b<W.heap.size:=by
     have hc0:=(hF 0 (by omega)).1;rcases Nat.lt_or_ge b W.heap.size with hlt | hge
     ·exact hlt
     ·simp [World.cell?,Array.getElem?_eq_none hge] at hc0
    refine Or.inr ⟨b,o,rfl,hlt,fun i hi=>?_⟩;simp only [List.length_map,List.length_range] at hi;obtain ⟨q1,q2,q3,_⟩:=hF i hi;simpa using ⟨q1,q2,q3⟩
  ·intro i hi;simp only [List.length_map,List.length_range] at hi;obtain ⟨_,_,_,z0,z1⟩:=hF i hi;simpa using ⟨z0,z1⟩
end
end Go.Proofs.YtcneojllbkacoaaGreatDoor
