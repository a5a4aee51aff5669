import Derived.Test.YtcneojllbkacoaaGreatDoorJ18RecI
import Derived.Test.YtcneojllbkacoaaGreatDoorJ17OpRcS
import Derived.Test.YtcneojllbkacoaaGreatDoorJ19SCanon
set_option maxRecDepth 100000
set_option maxHeartbeats 2000000
namespace Go.Proofs.YtcneojllbkacoaaGreatDoor
open Go.RowKit
theorem nJ:(Tryz.prog.info? 95).map (fun i=>(i.zero,i.size,i.bytes))=some (some (.agg #[.string ByteArray.empty,.int .i64 0,.slice none 0 0,.slice none 0 0]),4,72):=by kernel_rfl
theorem PC (n:Nat) (hn:n≤1048576) (w:World):
 (Instr.makeSlice 41 (.int .i64 (n:Int)) (.int .i64 (n:Int))).run Tryz.prog w=.ok (.slice (some ⟨w.heap.size,0,none⟩) n n) (w.alloc (.cells (madeCells #[.string ByteArray.empty,.int .i64 0,.slice none 0 0,.slice none 0 0] (n * 4)) 95)):=by
 obtain ⟨i,hi,hzz⟩:=Option.map_eq_some_iff.1 nJ;simp only [Prod.mk.injEq] at hzz;obtain ⟨hz,hs,hb⟩:=hzz;have hr:=run_make (P:=Tryz.prog) w 41 95 i _ Tryz.underlying41 hi hz .i64 .i64 n n (by omega) (Int.le_refl _) (by rw [hb];omega) (by omega);simp only [Int.toNat_natCast,hs] at hr;exact hr
def qP (w:World) (g n:Nat) (ts:List cA) (k:Nat):Prop:=∃(cur:Array Value) (T:Nat→Nat),lA w g cur 95∧cur.size=n * 4∧T g=0∧∀i (h:i<ts.length),i<k→pK w g T i g (0+i * 4) ts[i]
theorem qP.later {w w':World}{g n k:Nat}{ts:List cA} (h:qP w g n ts k) (hb:Below w.heap.size w w'):qP w' g n ts k:=by
 obtain ⟨cur,T,h1,h2,h3,h4⟩:=h;exact ⟨cur,T,h1.later hb,h2,h3,fun i hi hk=>(h4 i hi hk).keep (fun j _=>World.cell?_of_block (hb.block g (aA h1))) fun g' hg' _ _=>⟨hb.block g' hg',rfl⟩⟩
theorem qP.cells {w:World}{g n k:Nat}{fs:List cA} (h:qP w g n fs k){j:Nat} (hj:j<n * 4):(∃v,w.cell? ⟨g,j,none⟩=some v)∧w.frozen? ⟨g,j,none⟩=false:=by
 obtain ⟨cur,T,h1,h2,_⟩:=h;exact ⟨h1.there (by omega),h1.free j⟩
theorem qP.step {w w1:World}{g n k g1 g2:Nat}{ts:List cA} (h:qP w g n ts k) (hk:k<ts.length) (hn:ts.length≤n) (hb:Below w.heap.size w w1) (hg1:w.heap.size≤g1) (hg2:g1<g2)
 (o1:fB w1 w.heap.size (some ⟨g1,0,none⟩) ts[k].mets) (o2:fB w1 w.heap.size (some ⟨g2,0,none⟩) ts[k].sers) (q1 q2:Nat):
 qP ((((w1.setCell ⟨g,k * 4,none⟩ (.string ts[k].name)).setCell ⟨g,k * 4+1,none⟩ (.int .i64 ts[k].limit)).setCell ⟨g,k * 4+2,none⟩ (.slice (some ⟨g1,0,none⟩) ts[k].mets.length q1)).setCell ⟨g,k * 4+3,none⟩ (.slice (some ⟨g2,0,none⟩) ts[k].sers.length q2)) g n ts (k+1):=by
 obtain ⟨cur,T,h1,h2,h3,h4⟩:=h;have hlt:=aA h1;have hB:=(((((h1.later hb).set (k * 4) (.string ts[k].name)).set (k * 4+1) (.int .i64 ts[k].limit)).set (k * 4+2) (.slice (some ⟨g1,0,none⟩) ts[k].mets.length q1)).set (k * 4+3) (.slice (some ⟨g2,0,none⟩) ts[k].sers.length q2))
 have hbut:bE g w1 ((((w1.setCell ⟨g,k * 4,none⟩ (.string ts[k].name)).setCell ⟨g,k * 4+1,none⟩ (.int .i64 ts[k].limit)).setCell ⟨g,k * 4+2,none⟩ (.slice (some ⟨g1,0,none⟩) ts[k].mets.length q1)).setCell ⟨g,k * 4+3,none⟩ (.slice (some ⟨g2,0,none⟩) ts[k].sers.length q2)):=
  ((((bE.refl _ _).setCell _ _).setCell _ _).setCell _ _).setCell _ _
 generalize ((((w1.setCell ⟨g,k * 4,none⟩ (.string ts[k].name)).setCell ⟨g,k * 4+1,none⟩ (.int .i64 ts[k].limit)).setCell ⟨g,k * 4+2,none⟩ (.slice (some ⟨g1,0,none⟩) ts[k].mets.length q1)).setCell ⟨g,k * 4+3,none⟩ (.slice (some ⟨g2,0,none⟩) ts[k].sers.length q2))=w2 at *;refine ⟨_,fun x=>if x=g1 then 2 * k+1 else if x=g2 then 2 * k+2 else T x,hB,by simp [h2],?_,fun i hi hlt'=>?_⟩
 ·show (if g=g1 then _ else if g=g2 then _ else T g)=0;rw [if_neg (by omega),if_neg (by omega)];exact h3
 ·by_cases e:i=k
  ·subst e;refine ⟨some ⟨g1,0,none⟩,q1,some ⟨g2,0,none⟩,q2,?_,?_,?_,?_,?_,?_⟩
   ·rw [hB.cell];simp [Array.getElem?_setIfInBounds];omega
   ·rw [hB.cell];simp [Array.getElem?_setIfInBounds];omega
   ·rw [hB.cell];simp [Array.getElem?_setIfInBounds];omega
   ·rw [hB.cell];simp [Array.getElem?_setIfInBounds];omega
   ·refine ((o1.but hbut (by omega)).mono (by omega)).tag fun g' o' e'=>?_;simp only [Option.some.injEq,Addr.mk.injEq,and_true] at e';show (if g'=g1 then _ else _)=_;rw [if_pos e'.1.symm]
   ·refine ((o2.but hbut (by omega)).mono (by omega)).tag fun g' o' e'=>?_;simp only [Option.some.injEq,Addr.mk.injEq,and_true] at e';show (if g'=g1 then _ else if g'=g2 then _ else _)=_;rw [if_neg (by omega),if_pos e'.1.symm]
  ·refine (h4 i hi (by omega)).keep (fun j hj=>?_) fun g' hg' _ hT=>?_
   ·rw [hB.cell,←(hb.cell (p:=⟨g,0+i * 4+j,none⟩) hlt),(h1.later hb).cell];rw [Array.getElem?_setIfInBounds_ne (by omega),Array.getElem?_setIfInBounds_ne (by omega),Array.getElem?_setIfInBounds_ne (by omega),Array.getElem?_setIfInBounds_ne (by omega)]
   ·have hne:g'≠g:=fun e=>by rw [e,h3] at hT;omega
    refine ⟨(hbut.block g' (Nat.lt_of_lt_of_le hg' hb.size) hne).trans (hb.block g' hg'),?_⟩;show (if g'=g1 then _ else if g'=g2 then _ else T g')=T g';rw [if_neg (by omega),if_neg (by omega)]
theorem qP.done {w:World}{g B:Nat}{fs:List cA} (h:qP w g fs.length fs fs.length) (hB:B≤g):eB w B (some ⟨g,0,none⟩) fs:=by
 obtain ⟨cur,T,h1,h2,h3,h4⟩:=h;refine Or.inr ⟨g,0,cur,_,T,rfl,hB,h1,h3,fun i hi=>?_⟩;obtain ⟨a1,c1,a2,c2,k0,k1,k2,k3,k4,k5⟩:=h4 i hi hi;have m:∀{n a ps},fC w g T n a ps→fC w B T n a ps:=fun {n a ps} h=>by
  rcases h with h | ⟨g',o',cur',t',e,hB',r⟩
  ·exact Or.inl h
  ·exact Or.inr ⟨g',o',cur',t',e,by omega,r⟩
 exact ⟨a1,c1,a2,c2,k0,k1,k2,k3,m k4,m k5⟩
def DI (fs:List cA):Prop:=∀i (h:i<fs.length),fs[i].mets.length≤1048576∧fs[i].sers.length≤1048576
theorem JR (a:Option Addr) (cap:Nat) (fs:List cA) (w:World) (hf:pB w a fs) (hlen:fs.length≤1048576) (hsm:DI fs):
 Calls Tryz.prog 64 #[.slice a fs.length cap] w fun e w'=>e=.returned (.slice (some ⟨w.heap.size,0,none⟩) fs.length fs.length)∧eB w' w.heap.size (some ⟨w.heap.size,0,none⟩) fs∧Below w.heap.size w w'∧w.heap.size<w'.heap.size:=by
 have HF:Hid (pB w a fs):=hf;have HSM:Hid (DI fs):=hsm;clear hf hsm;have hmk:=PC fs.length hlen;go_enter Tryz.func64,Tryz.ntmps64;go_wp2;go_loopw [4] (fun i wr=>∃k:Nat,k≤fs.length∧i=.int .i64 k∧qP wr w.heap.size fs.length fs k∧Below w.heap.size w wr∧w.heap.size<wr.heap.size) (fun i _=>fs.length - (intOf i).toNat)
 case atStart=>exact ⟨0,Nat.zero_le _,rfl,⟨_,fun _=>0,lA.new _ _ _,size_madeCells _ _,rfl,fun i _ h=>absurd h (by omega)⟩,(Below.refl _ _).alloc (Nat.le_refl _) _,by simp⟩
 case round=>
  obtain ⟨k,hk,rfl,hfill,hbel,hsz⟩:=hrel;have HFill:Hid (qP wr w.heap.size fs.length fs k):=hfill;clear hfill hmk;by_cases hlt:k<fs.length
  ·obtain ⟨b,o,a1,q1,a2,q2,rfl,hb,c0,c1,c2,c3,p1,p2⟩:=(HF.out.later hbel).at hlt;have HC:Hid (Calls Tryz.prog 107 #[.agg #[.string fs[k].name,.int .i64 fs[k].limit,.slice a1 fs[k].mets.length q1,.slice a2 fs[k].sers.length q2]] wr fun e w'=>∃g1 g2,e=.returned (.agg #[.string fs[k].name,.int .i64 fs[k].limit,.slice (some ⟨g1,0,none⟩) fs[k].mets.length fs[k].mets.length,.slice (some ⟨g2,0,none⟩) fs[k].sers.length fs[k].sers.length])∧
    wr.heap.size≤g1∧g1<g2∧fB w' wr.heap.size (some ⟨g1,0,none⟩) fs[k].mets∧fB w' wr.heap.size (some ⟨g2,0,none⟩) fs[k].sers∧Below wr.heap.size wr w'):=QY fs[k] a1 a2 q1 q2 wr p1 p2 (HSM.out k hlt).1 (HSM.out k hlt).2
   clear p1 p2;go_wp2_with fail;refine HC.out.mono ?_;rintro e w' ⟨g1,g2,rfl,hg1,hg2,o1,o2,hb2⟩;have hF2:=HFill.out.later hb2;obtain ⟨⟨v0,d0⟩,f0⟩:=hF2.cells (j:=k * 4) (by omega);obtain ⟨⟨v1,d1⟩,f1⟩:=hF2.cells (j:=k * 4+1) (by omega);obtain ⟨⟨v2,d2⟩,f2⟩:=hF2.cells (j:=k * 4+2) (by omega);obtain ⟨⟨v3,d3⟩,f3⟩:=hF2.cells (j:=k * 4+3) (by omega);have HST:Hid (qP ((((w'.setCell ⟨w.heap.size,k * 4,none⟩ (.string fs[k].name)).setCell ⟨w.heap.size,k * 4+1,none⟩ (.int .i64 fs[k].limit)).setCell ⟨w.heap.size,k * 4+2,none⟩ (.slice (some ⟨g1,0,none⟩) fs[k].mets.length fs[k].mets.length)).setCell ⟨w.heap.size,k * 4+3,none⟩ (.slice (some ⟨g2,0,none⟩) fs[k].sers.length fs[k].sers.length)) w.heap.size fs.length fs (k+1)):=
    HFill.out.step hlt (Nat.le_refl _) hb2 hg1 hg2 o1 o2 _ _
   clear hF2 HC HFill o1 o2 c0 c1 c2 c3;go_wp2;exact ⟨⟨k+1,by omega,by go_num,HST.out,((((hbel.trans (hb2.mono hbel.size)).setCell (Nat.le_refl _) _).setCell (Nat.le_refl _) _).setCell (Nat.le_refl _) _).setCell (Nat.le_refl _) _,by have:=hb2.size;simp;omega⟩,by simp [intOf];omega⟩
  ·go_wp2;go_ret;have e:k=fs.length:=by omega
   exact ⟨rfl,by have:=HFill.out;rw [e] at this;exact this.done (Nat.le_refl _),hbel,hsz⟩
theorem eB.but {g B:Nat}{w w':World}{a:Option Addr}{ts:List cA} (h:eB w B a ts) (hb:bE g w w') (hg:g<B):eB w' B a ts:=by
 rcases h with h | ⟨g',o,cur,t,T,rfl,hB,hg',hT,h⟩
 ·exact Or.inl h
 ·have hk:=hb.block g' (aA hg') (by omega);exact Or.inr ⟨g',o,cur,t,T,rfl,hB,hk.trans hg',hT,fun i hi=>(h i hi).keep (fun j _=>World.cell?_of_block hk) fun q hq hBq _=>⟨hb.block q hq (by omega),rfl⟩⟩
theorem eB.mono {B B':Nat}{w:World}{a:Option Addr}{ts:List cA} (h:eB w B a ts) (hB':B'≤B):eB w B' a ts:=by
 rcases h with h | ⟨g',o,cur,t,T,rfl,hB,hg',hT,h⟩
 ·exact Or.inl h
 ·have m:∀{n a ps},fC w B T n a ps→fC w B' T n a ps:=fun {n a ps} h=>by
   rcases h with h | ⟨g',o',cur',t',e,hB',r⟩
   ·exact Or.inl h
   ·exact Or.inr ⟨g',o',cur',t',e,by omega,r⟩
  refine Or.inr ⟨g',o,cur,t,T,rfl,by omega,hg',hT,fun i hi=>?_⟩;obtain ⟨a1,c1,a2,c2,k0,k1,k2,k3,k4,k5⟩:=h i hi;exact ⟨a1,c1,a2,c2,k0,k1,k2,k3,m k4,m k5⟩
theorem XP (now:Int) (a:Option Addr) (cap:Nat) (fs:List cA) (w:World) (hf:pB w a fs) (hlen:fs.length≤1048576) (hsm:DI fs):
 Calls Tryz.prog 28 #[.agg #[.int .i64 now,.slice a fs.length cap]] w fun e w'=>∃g,e=.returned (.agg #[.int .i64 now,.slice (some ⟨g,0,none⟩) fs.length fs.length])∧w.heap.size≤g∧g<w'.heap.size∧eB w' w.heap.size (some ⟨g,0,none⟩) fs∧Below w.heap.size w w':=by
 have HC:Hid (∀W,Below w.heap.size w W→Calls Tryz.prog 64 #[.slice a fs.length cap] W fun e w'=>e=.returned (.slice (some ⟨W.heap.size,0,none⟩) fs.length fs.length)∧eB w' W.heap.size (some ⟨W.heap.size,0,none⟩) fs∧Below W.heap.size W w'∧W.heap.size<w'.heap.size):=
  fun W hW=>JR a cap fs W (hf.later hW) hlen hsm
 clear hf hsm;go_enter Tryz.func28,Tryz.ntmps28;go_wp2_with fail;refine (HC.out _ (rA (rA (bA _ _) (bA _ _)) (bA _ _))).mono ?_;rintro e w1 ⟨rfl,o1,hb1,z1⟩;have B1:Hid _:=rA (rA (rA (bA _ _) (bA _ _)) (bA _ _)) hb1;have R1:Hid (lA w1 (w.heap.size+1) #[.int .i64 0,.slice none 0 0] 43):=by have:=((lA.new (w.alloc (.cells #[.int .i64 now,.slice a fs.length cap] 31)) #[.int .i64 0,.slice none 0 0] 43).alloc (.cells #[.int .i64 now,.slice none 0 0] 43)).later hb1;exact iA (by simpa using this)
 have X1:Hid (lA w1 (w.heap.size+1+1) #[.int .i64 now,.slice none 0 0] 43):=by have:=(lA.new ((w.alloc (.cells #[.int .i64 now,.slice a fs.length cap] 31)).alloc (.cells #[.int .i64 0,.slice none 0 0] 43)) #[.int .i64 now,.slice none 0 0] 43).later hb1;exact iA (by simpa using this)
 have O1:Hid _:=iA (by simpa using o1);have z1':w.heap.size+1+1+1<w1.heap.size:=by simpa using z1
 have r0:w1.cell? ⟨w.heap.size+1+1,0,none⟩=some (.int .i64 now):=X1.out.cell 0;have r1:w1.cell? ⟨w.heap.size+1+1,1,none⟩=some (.slice none 0 0):=X1.out.cell 1;have r2:=X1.out.free 1;have s0:w1.cell? ⟨w.heap.size+1,0,none⟩=some (.int .i64 0):=R1.out.cell 0;have s1:w1.cell? ⟨w.heap.size+1,1,none⟩=some (.slice none 0 0):=R1.out.cell 1;have u0:=R1.out.free 0;have u1:=R1.out.free 1;clear o1 z1 hb1 HC;go_wp2;refine bodyPost_ret (v:=.agg #[.int .i64 now,.slice (some ⟨w.heap.size+1+1+1,0,none⟩) fs.length fs.length]) (by simp [results,Tryz.results28,go_sem,s0,s1]) rfl ⟨_,rfl,by omega,by simpa using z1',?_,?_⟩
 ·exact (((O1.out.but ((bE.refl _ _).setCell _ _) (by omega)).but ((bE.refl _ _).setCell _ _) (by omega)).but ((bE.refl _ _).setCell _ _) (by omega)).mono (by omega)
 ·exact ((B1.out.setCell (by simp;omega) _).setCell (by simp) _).setCell (by simp) _
theorem UH:(Tryz.prog.info? 149).map (fun i=>(i.zero,i.size,i.bytes))=some (some (.agg #[.string ⟨#[]⟩,.int .i64 0]),2,24):=by kernel_rfl
theorem UI:(Tryz.prog.info? 151).map (fun i=>(i.zero,i.size,i.bytes))=some (some (.agg #[.string ⟨#[]⟩,.int .i64 0]),2,24):=by kernel_rfl
theorem YI (a:Option Addr) (cap:Nat) (ps:List gA) (w:World) (hf:sA w a ps) (hlen:ps.length≤2000000):
 Calls Tryz.prog 109 #[.slice a ps.length cap] w fun e w'=>∃v,e=.returned v∧w'.ownsRow w.heap.size 149 2 v ps.length (flatK ps)∧Below w.heap.size w w':=by
 have heq:=fun w'=>Lib.run_eql_slice_nil (P:=Tryz.prog) w' 92 149 a ps.length cap 0 0 Tryz.underlying92;cases a with
 | none=>
   have h0:ps=[]:=by
    rcases hf with h | ⟨b,o,e,_⟩
    ·exact h
    ·exact absurd e (by simp)
   subst h0;have heq2:=fun w'=>Lib.run_eql_slice_nil (P:=Tryz.prog) w' 92 149 none 0 cap 0 0 Tryz.underlying92;clear heq;go_enter Tryz.func109,Tryz.ntmps109;go_wp2;go_ret;exact ⟨_,rfl,⟨rfl,Or.inl ⟨rfl,rfl⟩⟩,Below.refl _ _⟩
 | some ad=>
   obtain ⟨i,hi,hz0,hz1,hz2⟩:=info_parts UH;have hown:(w.alloc (.cells #[] 149)).ownsRow w.heap.size 149 2 (.slice (some ⟨w.heap.size,0,none⟩) 0 0) 0 []:=World.ownsRow_made w #[] 0 (Nat.le_refl _) (by simp [maxLen]) (by simp);have HO:=iA hown;have hnews:∀j u,(flatK ps)[j]?=some u→(w.alloc (.cells #[] 149)).cell? (ad.add j)=some u:=by
    rcases hf.later (bA w (.cells #[] 149)) with rfl | ⟨b,o,e,_,h⟩
    ·intro j u h;simp [flatK] at h
    ·simp only [Option.some.injEq] at e;subst e;exact hJ h
   have HN:Hid _:=hnews;have HI:Hid _:=hi;clear hf hown hnews hi;go_enter Tryz.func109,Tryz.ntmps109;go_wp2_with (at_builtin;refine wpList_append_own_at _ rfl _ _ _ rfl w.heap.size 149 i _ 2 24 Tryz.underlying92 HI.out hz0 hz1 hz2 rfl (by omega) (.slice (some ⟨w.heap.size,0,none⟩) 0 0) 0 [] rfl HO.out ad ps.length cap (flatK ps) rfl (fI ps) HN.out (aI ps) (by simp [maxLen];omega) (by omega) (by simp) ?_;intro v1 w1 hown1 hgrow _ _);go_ret;simp only [Nat.zero_add,List.nil_append] at hown1;refine ⟨v1,rfl,hown1,(bA _ _).grown hgrow (by simp) (fun k hk=>?_)⟩;simp [Value.ownBlock] at hk;omega
theorem YK (a:Option Addr) (cap:Nat) (ps:List gA) (w:World) (hf:sA w a ps) (hlen:ps.length≤2000000):
 Calls Tryz.prog 110 #[.slice a ps.length cap] w fun e w'=>∃v,e=.returned v∧w'.ownsRow w.heap.size 151 2 v ps.length (flatK ps)∧Below w.heap.size w w':=by
 have heq:=fun w'=>Lib.run_eql_slice_nil (P:=Tryz.prog) w' 93 151 a ps.length cap 0 0 Tryz.underlying93;cases a with
 | none=>
   have h0:ps=[]:=by
    rcases hf with h | ⟨b,o,e,_⟩
    ·exact h
    ·exact absurd e (by simp)
   subst h0;have heq2:=fun w'=>Lib.run_eql_slice_nil (P:=Tryz.prog) w' 93 151 none 0 cap 0 0 Tryz.underlying93;clear heq;go_enter Tryz.func110,Tryz.ntmps110;go_wp2;go_ret;exact ⟨_,rfl,⟨rfl,Or.inl ⟨rfl,rfl⟩⟩,Below.refl _ _⟩
 | some ad=>
   obtain ⟨i,hi,hz0,hz1,hz2⟩:=info_parts UI;have hown:(w.alloc (.cells #[] 151)).ownsRow w.heap.size 151 2 (.slice (some ⟨w.heap.size,0,none⟩) 0 0) 0 []:=World.ownsRow_made w #[] 0 (Nat.le_refl _) (by simp [maxLen]) (by simp);have HO:=iA hown;have hnews:∀j u,(flatK ps)[j]?=some u→(w.alloc (.cells #[] 151)).cell? (ad.add j)=some u:=by
    rcases hf.later (bA w (.cells #[] 151)) with rfl | ⟨b,o,e,_,h⟩
    ·intro j u h;simp [flatK] at h
    ·simp only [Option.some.injEq] at e;subst e;exact hJ h
   have HN:Hid _:=hnews;have HI:Hid _:=hi;clear hf hown hnews hi;go_enter Tryz.func110,Tryz.ntmps110;go_wp2_with (at_builtin;refine wpList_append_own_at _ rfl _ _ _ rfl w.heap.size 151 i _ 2 24 Tryz.underlying93 HI.out hz0 hz1 hz2 rfl (by omega) (.slice (some ⟨w.heap.size,0,none⟩) 0 0) 0 [] rfl HO.out ad ps.length cap (flatK ps) rfl (fI ps) HN.out (aI ps) (by simp [maxLen];omega) (by omega) (by simp) ?_;intro v1 w1 hown1 hgrow _ _);go_ret;simp only [Nat.zero_add,List.nil_append] at hown1;refine ⟨v1,rfl,hown1,(bA _ _).grown hgrow (by simp) (fun k hk=>?_)⟩;simp [Value.ownBlock] at hk;omega
theorem UJ:(Tryz.prog.info? 95).map (fun i=>(i.zero,i.size,i.bytes))=some (some (.agg #[.string ⟨#[]⟩,.int .i64 0,.slice none 0 0,.slice none 0 0]),4,72):=by kernel_rfl
theorem OK (ys:List TV):(fD ys).length=ys.length * 4:=by
 induction ys with
 | nil=>rfl
 | cons x r ih=>simp only [fD,List.flatMap_cons,List.length_append,List.length_cons,List.length_nil] at ih ⊢;omega
theorem ZD (ys:List TV):∀u∈fD ys,u.oneCell'=true:=by
 intro u hu;simp only [fD,List.mem_flatMap] at hu;obtain ⟨x,_,hu⟩:=hu;simp only [List.mem_cons,List.mem_nil_iff,or_false] at hu;rcases hu with rfl | rfl | rfl | rfl<;>rfl
theorem MP {w:World}{b:Nat}:∀(ts:List cA) (o:Nat),(∀i (h:i<ts.length),DK w b (o+i * 4) ts[i])→∃ys:List TV,ys.map (·.t)=ts∧MZ w ys∧∀j u,(fD ys)[j]?=some u→w.cell? ⟨b,o+j,none⟩=some u
 | [],_,_=>⟨[],rfl,fun y hy=>(by cases hy),fun j u h=>(by simp [fD] at h)⟩
 | t :: r,o,h=>by
   obtain ⟨ys,h1,h2,h3⟩:=MP r (o+4) (fun i hi=>by
    have:=h (i+1) (by simpa using hi);rw [show o+(i+1) * 4=o+4+i * 4 by omega] at this;simpa using this)
   obtain ⟨a1,c1,a2,c2,k0,k1,k2,k3,p1,p2⟩:=h 0 (by simp);simp only [Nat.zero_mul,Nat.add_zero,List.getElem_cons_zero] at k0 k1 k2 k3 p1 p2;refine ⟨⟨t,a1,c1,a2,c2⟩:: ys,by rw [List.map_cons,h1],fun y hy=>?_,fun j u hu=>?_⟩
   ·rcases List.mem_cons.1 hy with rfl | hy
    ·exact ⟨p1,p2⟩
    ·exact h2 y hy
   ·have e:fD (⟨t,a1,c1,a2,c2⟩:: ys)=[.string t.name,.int .i64 t.limit,.slice a1 t.mets.length c1,.slice a2 t.sers.length c2]++fD ys:=by simp [fD]
    rw [e] at hu;match j,hu with
    | 0,hu=>simp at hu;rw [←hu];exact k0
    | 1,hu=>simp at hu;rw [←hu];exact k1
    | 2,hu=>simp at hu;rw [←hu];exact k2
    | 3,hu=>simp at hu;rw [←hu];exact k3
    | j+4,hu=>
      have hu':(fD ys)[j]?=some u:=by simpa using hu
      have:=h3 j u hu';rw [show o+(j+4)=o+4+j by omega];exact this
theorem YJ (a:Option Addr) (cap:Nat) (ts:List cA) (wo w:World) (hf:pB wo a ts) (hbo:Below wo.heap.size wo w) (hlen:ts.length≤2000000):
 Calls Tryz.prog 108 #[.slice a ts.length cap] w fun e w'=>∃v ys,e=.returned v∧w'.ownsRow w.heap.size 95 4 v ts.length (fD ys)∧ys.map (·.t)=ts∧MZ wo ys∧Below w.heap.size w w':=by
 have heq:=fun w'=>Lib.run_eql_slice_nil (P:=Tryz.prog) w' 41 95 a ts.length cap 0 0 Tryz.underlying41;cases a with
 | none=>
   have h0:ts=[]:=by
    rcases hf with h | ⟨b,o,e,_⟩
    ·exact h
    ·exact absurd e (by simp)
   subst h0;have heq2:=fun w'=>Lib.run_eql_slice_nil (P:=Tryz.prog) w' 41 95 none 0 cap 0 0 Tryz.underlying41;clear heq;go_enter Tryz.func108,Tryz.ntmps108;go_wp2;go_ret;exact ⟨_,[],rfl,⟨rfl,Or.inl ⟨rfl,rfl⟩⟩,rfl,fun y hy=>(by cases hy),Below.refl _ _⟩
 | some ad=>
   obtain ⟨i,hi,hz0,hz1,hz2⟩:=info_parts UJ;obtain ⟨ys,hys,hold,hnews0⟩:∃ys:List TV,ys.map (·.t)=ts∧MZ wo ys∧∀j u,(fD ys)[j]?=some u→(w.alloc (.cells #[] 95)).cell? (ad.add j)=some u:=by
    rcases hf with rfl | ⟨b,o,e,hb,h⟩
    ·exact ⟨[],rfl,fun y hy=>(by cases hy),fun j u h=>by simp [fD] at h⟩
    ·simp only [Option.some.injEq] at e;subst e;obtain ⟨ys,k1,k2,k3⟩:=MP ts o h;refine ⟨ys,k1,k2,fun j u hu=>?_⟩;rw [DL];exact ((bA w _).cell (Nat.lt_of_lt_of_le hb hbo.size)).trans ((hbo.cell hb).trans (k3 j u hu))
   have hyl:ys.length=ts.length:=by rw [←hys,List.length_map]
   have hown:(w.alloc (.cells #[] 95)).ownsRow w.heap.size 95 4 (.slice (some ⟨w.heap.size,0,none⟩) 0 0) 0 []:=World.ownsRow_made w #[] 0 (Nat.le_refl _) (by simp [maxLen]) (by simp);have HO:=iA hown;have HN:=iA hnews0;have HI:Hid (Tryz.prog.info? 95=some i):=hi;have HLV:Hid ((fD ys).length=ts.length * 4):=by show _=_;rw [OK,hyl]
   have HYS:=iA hys;have HOL:=iA hold;clear hf hown hnews0 hi hys hold hyl;go_enter Tryz.func108,Tryz.ntmps108;go_wp2_with (at_builtin;refine wpList_append_own_at _ rfl _ _ _ rfl w.heap.size 95 i _ 4 72 Tryz.underlying41 HI.out hz0 hz1 hz2 rfl (by omega) (.slice (some ⟨w.heap.size,0,none⟩) 0 0) 0 [] rfl HO.out ad ts.length cap (fD ys) rfl HLV.out HN.out (ZD ys) (by simp [maxLen];omega) (by omega) (by simp) ?_;intro v1 w1 hown1 hgrow _ _);go_ret;simp only [Nat.zero_add,List.nil_append] at hown1;refine ⟨v1,ys,rfl,hown1,HYS.out,HOL.out,(bA _ _).grown hgrow (by simp) (fun k hk=>?_)⟩;simp [Value.ownBlock] at hk;omega
theorem AK (ls:List zA):((iF ls).1=0→iB ls=(jF [] ls,0,0)∧CD ls∧dR ls=true∧(iF ls).2=0∧¬16<ls.length)∧((iF ls).1≠0→iB ls=([],(iF ls).1,(iF ls).2)):=by
 by_cases h16:16<ls.length
 ·rw [ER h16,DW h16];exact ⟨fun h=>absurd h (by simp),fun _=>rfl⟩
 cases hb:jC ls 0 with
 | some ci=>
   obtain ⟨c,i⟩:=ci;rw [KT h16 hb,gT h16 hb];refine ⟨fun h=>?_,fun _=>rfl⟩;exfalso;have:∀(l:List zA) (j:Nat),jC l j=some (c,i)→c≠0:=by
    intro l;induction l with
    | nil=>intro j h;simp [jC] at h
    | cons x r ih=>
      intro j h;rw [jC] at h;split at h
      ·exact ih _ h
      ·rename_i hx;simp only [Option.some.injEq,Prod.mk.injEq] at h;rw [←h.1];exact hx
   exact this ls 0 hb h
 | none=>
   cases ht:uD [] ls 0 with
   | some i=>
     rw [AL h16 hb ht,wZ h16 hb ht];exact ⟨fun h=>absurd h (by simp),fun _=>rfl⟩
   | none=>
     have hn:=aMr ls ht;rw [KU h16 hb ht,VL ls hn];cases hm:dR ls with
     | true=>
       rw [SD h16 hb ht hm];exact ⟨fun _=>⟨rfl,hn,rfl,rfl,h16⟩,fun h=>absurd rfl h⟩
     | false=>
       rw [JZ h16 hb ht hm];exact ⟨fun h=>absurd h (by simp),fun _=>rfl⟩
theorem LI {ls:List zA} (h:dR ls=true):0<(yL ls).length:=by
 unfold dR at h;rw [List.any_eq_true] at h;obtain ⟨x,hx,hc⟩:=h;rw [Bool.and_eq_true] at hc;exact List.length_pos_of_mem (List.mem_filter.2 ⟨hx,hc.1⟩)
theorem IV (a:Option Addr) (cap:Nat) (ls:List zA) (w:World) (hf:lD w a ls) (hB:aHq ls) (hlen:ls.length≤2000000) (hcap:ls.length≤cap) (hT:wF w):
 Calls Tryz.prog 266 #[.slice a ls.length cap] w fun e w'=>∃a' cap',e=.returned (.tuple #[.slice a' (iB ls).1.length cap',.int .i64 ((iB ls).2.1:Nat),.int .i64 ((iB ls).2.2:Nat)])∧(iB ls).1.length≤cap'∧pD w' w.heap.size a' (iB ls).1∧Below w.heap.size w w':=by
 have HFO:Hid (Calls Tryz.prog 277 #[.slice a ls.length cap] w fun e w'=>e=.returned (.tuple #[.int .i64 ((iF ls).1:Nat),.int .i64 ((iF ls).2:Nat)])∧Below w.heap.size w w'):=TF a cap ls w hf hB hlen hcap hT;have HF:Hid (lD w a ls):=hf;obtain ⟨hc0,hc1⟩:=AK ls;clear hf hB hT;by_cases h0:(iF ls).1=0
 ·obtain ⟨hcr,hnt,hmet,h2,h16⟩:=hc0 h0;have HFO2:Hid (Calls Tryz.prog 277 #[.slice a ls.length cap] w fun e w'=>e=.returned (.tuple #[.int .i64 0,.int .i64 0])∧Below w.heap.size w w'):=by
   show Calls _ _ _ _ _;have:=HFO.out;rw [h0,h2] at this;exact this
  have HCR:Hid (iB ls=(jF [] ls,0,0)∧CD ls∧0<(yL ls).length):=⟨hcr,hnt,LI hmet⟩
  obtain ⟨ti,hti,hz0,hz1,hz2⟩:=zW;have HI:Hid _:=hti;clear hc0 hc1 h0 hcr hnt hmet h2 HFO hti;go_enter Tryz.func266,Tryz.ntmps266;go_wp2_with fail;refine HFO2.out.mono ?_;rintro e w1 ⟨rfl,hb1⟩;have HB1:Hid _:=hb1;clear hb1 HFO2;go_wp2;go_loopw [7,9,21] (fun out _ i wr=>∃(k:Nat) (ys:List zA) (av:Option Addr) (cv:Nat),k≤ls.length∧ys.length≤k∧Hid (ys=yL (ls.take k))∧i=.int .i64 k∧out=.slice av ys.length cv∧Hid (wr.ownsRow w.heap.size 202 2 (.slice av ys.length cv) ys.length (sB ys))∧Below w.heap.size w wr) (fun _ _ i _=>ls.length - (intOf i).toNat)
  case atStart=>exact ⟨0,[],none,0,Nat.zero_le _,Nat.zero_le _,rfl,rfl,rfl,⟨rfl,Or.inl ⟨rfl,rfl⟩⟩,HB1.out⟩
  case round=>
   obtain ⟨k,ys,av,cv,hk,hy,HY,rfl,rfl,hrow,hbel⟩:=hrel;by_cases hlt:k<ls.length
   ·obtain ⟨b,o,rfl,hb,c0,c1⟩:=(HF.out.later hbel).at hlt;have HS:=ZM ls k hlt;have hE:=UR ls[k];have hnb:¬b=wr.heap.size:=by omega
    have hsz:=hbel.size;by_cases he:sO ls[k]=true
    ·have E:Hid (ys=yL (ls.take (k+1))):=by show _=_;rw [HS,if_pos he,List.append_nil];exact HY.out
     have heb:ls[k].value.toList.isEmpty=true:=by rw [←hE];exact he
     clear HS he hE;generalize ls[k].name=nm at *;generalize ls[k].value=va at *;go_wp2;exact ⟨⟨k+1,ys,av,cv,by omega,by omega,E.out,by go_num,rfl,yA hrow.out (bA _ _),rA hbel (bA _ _)⟩,by simp [intOf];omega⟩
    ·have E:Hid (ys++[ls[k]]=yL (ls.take (k+1))):=by show _=_;rw [HS,if_neg he,HY.out]
     have heb:ls[k].value.toList.isEmpty=false:=by rw [←hE];simpa using he
     have HLK:Hid (sB [ls[k]]=[.string ls[k].name,.string ls[k].value]):=rfl;clear HS he hE;generalize ls[k]=lk at *;generalize lk.name=nm at *;generalize lk.value=va at *;have HW:Hid (∀x,Below wr.heap.size wr ((wr.alloc (.cells #[.string nm,.string va] 202)).alloc x)):=fun x=>rA (bA _ _) (bA _ _);go_wp2_with (at_builtin;refine wpList_append_lies _ rfl _ _ _ rfl w.heap.size 202 ti _ 2 32 Tryz.underlying198 HI.out hz0 hz1 hz2 rfl (by omega) (.slice av ys.length cv) ys.length (sB ys) rfl (by exact yA hrow.out (HW.out _)) ⟨wr.heap.size+1,0,none⟩ 1 1 [.string nm,.string va] rfl rfl (by exact aGd _ _ #[.string nm,.string va] _) (by simp [Value.oneCell']) (by omega) (by simp [maxLen];omega) (by omega) (by simp;omega) (wr.heap.size+1+1) (by simp) ?_;intro g5 cap5 w5 hown5 hgrow5 hat5 hlt5);have hB5:=(rA hbel (HW.out _)).grown hgrow5 (by simp;omega) (fun q hq=>lH hrow.out q hq);have hle:(ys++[lk]).length=ys.length+1:=by simp
     have hxs:sB ys++[.string nm,.string va]=sB (ys++[lk]):=by rw [vD,HLK.out]
     rw [hxs,←hle] at hown5;exact ⟨⟨k+1,ys++[lk],some ⟨g5,0,none⟩,cap5,by omega,by rw [hle];omega,E.out,by go_num,by rw [hle],hown5,hB5⟩,by simp [intOf];omega⟩
   ·have HYE:Hid (ys=yL ls):=by show _=_;rw [HY.out,List.take_of_length_le (by omega)]
    have hpos:0<ys.length:=by rw [HYE.out];exact HCR.out.2.2
    have hlab:=zL hrow.out;obtain ⟨g,cur,hav,hgB,hgb,hat,hcv⟩:∃g cur,av=some ⟨g,0,none⟩∧w.heap.size≤g∧lA wr g cur 202∧bP wr g 0 ys∧ys.length≤cv:=by
     rcases hrow.out.2 with ⟨_,hl⟩ | ⟨g,cap',cur,he,hgB,hg,hcc,_⟩
     ·omega
     ·simp only [Value.slice.injEq] at he;rcases hlab with h | ⟨g',o',cur',t',e',_,_,hl⟩
      ·rw [h] at hpos;exact absurd hpos (by simp)
      ·rw [he.1] at e';simp only [Option.some.injEq,Addr.mk.injEq,and_true] at e';obtain ⟨rfl,rfl⟩:=e';exact ⟨g,cur,he.1,hgB,hg,hl,by rw [he.2.2];exact hcc⟩
    have HSC:Hid (Calls Tryz.prog 278 #[.slice (some ⟨g,0,none⟩) ys.length cv,.func (.func 279) #[] #[]] wr fun e w'=>
     e=.returned (.tuple #[])∧∃ls',ls'.Perm ys∧ls'.Pairwise Le∧pD w' w.heap.size (some ⟨g,0,none⟩) ls'∧Below w.heap.size wr w'):=haveI:=aOp;QB g cv ys wr w.heap.size hgB hgb hat (by omega)
    subst hav;clear hrow hlab hat hgb;go_wp2_with fail;refine HSC.out.mono ?_;rintro e w2 ⟨rfl,ls',hp,hs,how,hb2⟩;have E1:=aHg HCR.out.2.1 (by rw [←HYE.out];exact hp) hs;have EL:Hid (ys.length=(jF [] ls).length):=by show _=_;rw [←E1,hp.length_eq]
    have HOW:Hid (pD w2 w.heap.size (some ⟨g,0,none⟩) (jF [] ls)):=by rw [←E1];exact how
    have HB2:Hid _:=hbel.trans hb2;clear hp hs how hb2 E1;go_wp2;refine bodyPost_ret (v:=.tuple #[.slice (some ⟨g,0,none⟩) ys.length cv,.int .i64 0,.int .i64 0]) (by simp [results,Tryz.results266,go_sem]) rfl ⟨some ⟨g,0,none⟩,cv,?_,?_,?_,HB2.out⟩
    ·rw [HCR.out.1,EL.out];rfl
    ·rw [HCR.out.1,←EL.out];exact hcv
    ·rw [HCR.out.1];exact HOW.out
 ·have hcr:=hc1 h0;have HCR:Hid _:=hcr;have h0b:(((iF ls).1:Int) != 0)=true:=by simp;omega
  clear hc0 hc1 h0 hcr;generalize (iF ls).1=C at *;generalize (iF ls).2=I at *;go_enter Tryz.func266,Tryz.ntmps266;go_wp2_with fail;refine HFO.out.mono ?_;rintro e w1 ⟨rfl,hb1⟩;have HB1:Hid _:=hb1;clear hb1 HFO;go_wp2;refine bodyPost_ret (v:=.tuple #[.slice none 0 0,.int .i64 C,.int .i64 I]) (by simp [results,Tryz.results266,go_sem]) rfl ⟨none,0,?_,?_,?_,HB1.out⟩
  ·rw [HCR.out];rfl
  ·rw [HCR.out];exact Nat.le_refl _
  ·rw [HCR.out];exact Or.inl rfl
theorem YD {ls:List zA} (h:(iB ls).2.1=0):0<(iB ls).1.length∧0<ls.length:=by
 obtain ⟨h0,h1⟩:=AK ls;by_cases hf:(iF ls).1=0
 ·obtain ⟨hc,_,hm,_⟩:=h0 hf;have hk:=LI hm;have hl:=LH ls;rw [hc];simp only;rw [FA];exact ⟨hk,by omega⟩
 ·have hc:=h1 hf;rw [hc] at h;exact absurd h hf
theorem DM:∀(xs ys:List zA),Lib.allEq dP xs ys=wE xs ys
 | [],[]=>rfl
 | [],_ :: _=>rfl
 | _ :: _,[]=>rfl
 | x :: r,y :: q=>by rw [Lib.allEq,wE,DM r q]
theorem FO [Inhabited zA]{w:World}{b o:Nat}{ls:List zA} (h:bP w b o ls):∀j,j<ls.length→∀i v,(wN ls[j]!)[i]?=some v→w.cell? ⟨b,o+j * 2+i,none⟩=some v:=by
 intro j hj i v hi;have h1:=h j hj;have e:ls[j]! = ls[j]:=getElem!_pos ls j hj;rw [e] at hi;match i,hi with
 | 0,hi=>simp [wN] at hi;rw [←hi];exact h1.1
 | 1,hi=>simp [wN] at hi;rw [←hi];exact h1.2
 | i+2,hi=>simp [wN] at hi
theorem lD.some {w:World}{a:Option Addr}{ls:List zA} (h:lD w a ls) (h0:0<ls.length):∃b o,a=some ⟨b,o,none⟩∧b<w.heap.size∧bP w b o ls:=by
 rcases h with rfl | h
 ·exact absurd h0 (by simp)
 ·exact h
theorem SX (w:World) (q:Nat):Below w.heap.size w (w.drewN q):=⟨rfl,rfl,rfl,Nat.le_refl _,fun _ _=>rfl⟩
theorem aEm (a a':Option Addr) (cap cap':Nat) (xs ys:List zA) (w:World) (hx:lD w a xs) (hy:lD w a' ys) (hx0:0<xs.length) (hy0:0<ys.length) (hxl:xs.length≤2000000) (hyl:ys.length≤2000000):
 Calls Tryz.prog 267 #[.slice a xs.length cap,.slice a' ys.length cap'] w fun e w'=>e=.returned (.bool (wE xs ys))∧Below w.heap.size w w':=by
 obtain ⟨b1,o1,rfl,_,h1⟩:=hx.some hx0;obtain ⟨b2,o2,rfl,_,h2⟩:=hy.some hy0;haveI:=aOp
 have hcon:=AnyQ.slices_Equal Tryz.eqlL 2 Tryz.isAgg202 Tryz.sizeOf202 wN (fun _=>rfl) dP aOt b1 o1 xs.length cap b2 o2 ys.length cap' xs ys w (Nat.le_refl _) (Nat.le_refl _) (by omega) (by omega) (FO h1) (FO h2);change Calls Tryz.prog 267 _ _ _ at hcon;refine hcon.mono ?_;rintro e w' ⟨rfl,q,rfl⟩;rw [List.take_length,List.take_length,DM];exact ⟨rfl,SX w q⟩
theorem aFd (a:Option Addr) (cap:Nat) (ls:List zA) (w:World) (hf:lD w a ls) (hB:aHq ls) (hlen:ls.length≤2000000) (hcap:ls.length≤cap) (hT:wF w):
 Calls Tryz.prog 249 #[.slice a ls.length cap] w fun e w'=>e=.returned (.bool (jM ls))∧Below w.heap.size w w':=by
 have HC:Hid (Calls Tryz.prog 266 #[.slice a ls.length cap] w fun e w'=>∃a' cap',e=.returned (.tuple #[.slice a' (iB ls).1.length cap',.int .i64 ((iB ls).2.1:Nat),.int .i64 ((iB ls).2.2:Nat)])∧(iB ls).1.length≤cap'∧pD w' w.heap.size a' (iB ls).1∧Below w.heap.size w w'):=IV a cap ls w hf hB hlen hcap hT;have HF:Hid (lD w a ls):=hf;have hcl:=DV ls;clear hf hB hT;by_cases h0:(iB ls).2.1=0
 ·obtain ⟨hp1,hp2⟩:=YD h0;have HEQ:Hid _:=fun W af cf h1 h2=>aEm af a cf cap _ ls W h1 h2 hp1 hp2 (by omega) hlen;have E:Hid (jM ls=wE (iB ls).1 ls):=by show _=_;unfold jM;rw [h0];rfl
  have h0b:(((iB ls).2.1:Int)==0)=true:=by simp;omega
  rw [E.out];clear h0 E;generalize wE (iB ls).1 ls=SB at *;generalize (iB ls).1=C at *;generalize (iB ls).2.1=c1 at *;generalize (iB ls).2.2=c2 at *;go_enter Tryz.func249,Tryz.ntmps249;go_wp2_with fail;refine HC.out.mono ?_;rintro e w1 ⟨af,cf,rfl,_,hof,hb1⟩;have B1:Hid _:=hb1;have O1:Hid (lD w1 af C∧lD w1 a ls):=⟨hof.labs,HF.out.later hb1⟩
  clear hof hb1 HC;go_wp2_with fail;refine (HEQ.out _ _ _ O1.out.1 O1.out.2).mono ?_;rintro e w2 ⟨rfl,hb2⟩;have B2:Hid _:=rA B1.out hb2;clear hb2;go_wp2;go_ret;exact ⟨rfl,B2.out⟩
 ·have E:Hid (jM ls=false):=by show _=_;unfold jM;rw [decide_eq_false h0];rfl
  have h0b:(((iB ls).2.1:Int)==0)=false:=by simp;omega
  rw [E.out];clear h0 E;generalize (iB ls).1=C at *;generalize (iB ls).2.1=c1 at *;generalize (iB ls).2.2=c2 at *;go_enter Tryz.func249,Tryz.ntmps249;go_wp2_with fail;refine HC.out.mono ?_;rintro e w1 ⟨af,cf,rfl,_,hof,hb1⟩;have B1:Hid _:=hb1;clear hof hb1 HC;go_wp2;go_ret;exact ⟨rfl,B1.out⟩
theorem aIf (key:ByteArray):EC key≤255:=by
 have:=aJy 1 ⟨key,false⟩;unfold EC;omega
theorem ZU (B:Nat) (key:ByteArray) (w:World) (hB:RB w B ⟨key,false⟩) (hs:key.size≤1000000000):
 Calls Tryz.prog 247 #[.pointer (some ⟨B,0,none⟩)] w fun e w'=>∃g cap,e=.returned (.slice (some ⟨g,0,none⟩) (lE key).1.length cap)∧w'.ownsRow w.heap.size 202 2 (.slice (some ⟨g,0,none⟩) (lE key).1.length cap) (lE key).1.length (sB (lE key).1)∧RB w' B (lE key).2∧bE B w w':=by
 have HC:Hid (Calls Tryz.prog 264 #[.pointer (some ⟨B,0,none⟩),.int .i64 1] w fun e w'=>e=.returned (.int .i64 (EC key:Nat))∧RB w' B (yI 1 ⟨key,false⟩).2∧bE B w w'):=GD B ⟨key,false⟩ 1 w hB (by omega) hs;have hBlt:=aA hB;have hz:(yI 1 ⟨key,false⟩).2.rest.size≤1000000000:=by
  have h2:=(nR 1 ⟨key,false⟩).2.2;have h3:(yI 1 ⟨key,false⟩).2.rest.size≤key.size:=h2;omega
 have hcl:=aIf key;have HRA:Hid (lE key=wO (yI 1 ⟨key,false⟩).2 (EC key)):=by show _=_;rw [lE]
 rw [HRA.out];clear HRA hB;generalize (yI 1 ⟨key,false⟩).2=r0 at *;generalize EC key=n at *;obtain ⟨ti,hti,ht0,ht1,ht2⟩:=zW;have HI:Hid _:=hti;have hmk:∀W:World,(Instr.makeSlice 198 (.int .i64 0) (.int .i64 (n:Nat))).run Tryz.prog W=.ok (.slice (some ⟨W.heap.size,0,none⟩) 0 n) (W.alloc (.cells (madeCells #[.string ByteArray.empty,.string ByteArray.empty] (n * 2)) 202)):=fun W=>by
  have hr:=run_make (P:=Tryz.prog) W 198 202 ti _ Tryz.underlying198 hti ht0 .i64 .i64 0 (n:Nat) (by omega) (by omega) (by rw [ht2];omega) (by omega);simp only [Int.toNat_natCast,ht1] at hr;exact hr
 clear hti;go_enter Tryz.func247,Tryz.ntmps247;go_wp2_with fail;refine HC.out.mono ?_;rintro e w1 ⟨rfl,hr1,hb1⟩;have H1:Hid (RB w1 B r0∧bE B w w1):=⟨hr1,hb1⟩
 have hz1:=hb1.size;clear hr1 hb1 HC;go_wp2;clear hmk;go_loopw [4,5,11] (fun out _ i wr=>∃(k:Nat) (ys:List zA) (g cv:Nat),k≤n∧i=.int .i64 k∧ys.length≤k∧k≤ys.length∧out=.slice (some ⟨g,0,none⟩) ys.length cv∧Hid (ys=(wO r0 k).1)∧Hid (RB wr B (wO r0 k).2)∧Hid (wr.ownsRow w.heap.size 202 2 (.slice (some ⟨g,0,none⟩) ys.length cv) ys.length (sB ys))∧Hid (bE B w wr)) (fun _ _ i _=>n - (intOf i).toNat)
 case atStart=>
  refine ⟨0,[],_,_,Nat.zero_le _,rfl,Nat.zero_le _,Nat.zero_le _,rfl,rfl,lA.later H1.out.1 (bA _ _),⟨rfl,Or.inr ⟨w1.heap.size,n,_,rfl,hz1,heap_alloc_new _ _,Nat.zero_le _,by simp [maxLen];omega,size_madeCells _ _,rfl⟩⟩,H1.out.2.alloc _⟩
 case round=>
  obtain ⟨k,ys,g,cv,hk,rfl,hyl,hyl2,rfl,HY,HRB,HROW,HBU⟩:=hrel;by_cases hlt:k<n
  ·have hrest:(wO r0 k).2.rest.size≤1000000000:=by have:=(aKm r0 k).1;omega
   have hrest2:(iD 1 (wO r0 k).2).2.rest.size≤1000000000:=by have:=(QW 1 (wO r0 k).2).2;omega
   have HT1:Hid (∀W,RB W B (wO r0 k).2→Calls Tryz.prog 265 #[.pointer (some ⟨B,0,none⟩),.int .i64 1] W fun e w'=>e=.returned (.string (iD 1 (wO r0 k).2).1)∧RB w' B (iD 1 (wO r0 k).2).2∧bE B W w'):=fun W h=>XL B _ 1 W h (by omega) hrest;have HT2:Hid (∀W,RB W B (iD 1 (wO r0 k).2).2→Calls Tryz.prog 265 #[.pointer (some ⟨B,0,none⟩),.int .i64 2] W fun e w'=>e=.returned (.string (iD 2 (iD 1 (wO r0 k).2).2).1)∧RB w' B (iD 2 (iD 1 (wO r0 k).2).2).2∧bE B W w'):=fun W h=>XL B _ 2 W h (by omega) hrest2;have HST:Hid (wO r0 (k+1)=(ys++[⟨(iD 1 (wO r0 k).2).1,(iD 2 (iD 1 (wO r0 k).2).2).1⟩],(iD 2 (iD 1 (wO r0 k).2).2).2)):=by show _=_;rw [tX,aCg,HY.out]
   clear hrest hrest2;generalize iD 2 (iD 1 (wO r0 k).2).2=t2 at *;generalize iD 1 (wO r0 k).2=t1 at *;generalize t1.1=nm at *;generalize t2.1=va at *;go_wp2_with fail;refine (HT1.out _ HRB.out).mono ?_;rintro e w2 ⟨rfl,hr2,hb2⟩;have H2:Hid (RB w2 B t1.2∧bE B w w2∧w2.ownsRow w.heap.size 202 2 (.slice (some ⟨g,0,none⟩) ys.length cv) ys.length (sB ys)):=⟨hr2,HBU.out.trans hb2,WI HROW.out hb2 hBlt⟩
   clear hr2 hb2 HT1 HRB HROW HBU;go_wp2_with fail;refine (HT2.out _ H2.out.1).mono ?_;rintro e w3 ⟨rfl,hr3,hb3⟩;have H3:Hid (RB w3 B t2.2∧bE B w w3∧w3.ownsRow w.heap.size 202 2 (.slice (some ⟨g,0,none⟩) ys.length cv) ys.length (sB ys)):=⟨hr3,H2.out.2.1.trans hb3,WI H2.out.2.2 hb3 hBlt⟩
   have hz3:=H3.out.2.1.size;clear hr3 hb3 HT2 H2;go_wp2_with (at_builtin;refine wpList_append_lies _ rfl _ _ _ rfl w.heap.size 202 ti _ 2 32 Tryz.underlying198 HI.out ht0 ht1 ht2 rfl (by omega) (.slice (some ⟨g,0,none⟩) ys.length cv) ys.length (sB ys) rfl (by exact yA H3.out.2.2 (bA _ _)) ⟨w3.heap.size,0,none⟩ 1 1 [.string nm,.string va] rfl rfl (by exact World.news_of_block (cs:=#[.string nm,.string va]) (heap_alloc_new _ _)) (by simp [Value.oneCell']) (by omega) (by simp [maxLen];omega) (by omega) (by simp;omega) (w3.heap.size+1) (by simp) ?_;intro g5 cap5 w5 hown5 hgrow5 hat5 hlt5);have hkeep:=(hgrow5.block B (by simp;omega) (fun e=>by have:=lH H3.out.2.2 B e.symm;omega)).trans ((bA w3 _).block B (by omega));have hbut:bE B w w5:=by
    have hB3:=H3.out.2.1;refine ⟨hgrow5.os.trans hB3.os,hgrow5.tape.trans hB3.tape,hgrow5.output.trans hB3.output,?_,fun q hq hne=>?_⟩
    ·have:=hgrow5.size;simp at this;omega
    ·exact (hgrow5.block q (by simp;omega) (fun e=>by have:=lH H3.out.2.2 q e.symm;omega)).trans (((bA w3 _).block q (by omega)).trans (hB3.block q hq hne))
   have hle:(ys++[(⟨nm,va⟩:zA)]).length=ys.length+1:=by simp
   have hxs:sB ys++[.string nm,.string va]=sB (ys++[⟨nm,va⟩]):=by rw [vD];rfl
   rw [hxs,←hle] at hown5;refine ⟨⟨k+1,ys++[(⟨nm,va⟩:zA)],g5,cap5,by omega,by go_num,by omega,by omega,by rw [hle],by show _=_;rw [HST.out],?_,hown5,hbut⟩,by simp [intOf];omega⟩;show RB w5 B (wO r0 (k+1)).2;rw [HST.out];exact hkeep.trans H3.out.1
  ·have e:k=n:=by omega
   subst e;have hY:=HY.out;clear HY;subst hY;go_wp2;go_ret;exact ⟨g,cv,rfl,HROW.out,HRB.out,HBU.out⟩
theorem UA (key:ByteArray) (w:World) (hs:key.size≤1000000000) (hT:wF w):
 Calls Tryz.prog 220 #[.string key] w fun e w'=>∃a cap,e=.returned (.tuple #[.slice a (zD key).1.length cap,.bool (zD key).2])∧pD w' w.heap.size a (zD key).1∧Below w.heap.size w w':=by
 have HL:Hid _:=fun W B h=>ZU B key W h hs;have hbig:aHq (lE key).1:=fun i hi=>by
  have:=aGs key i hi;exact ⟨by omega,by omega⟩
 have hlen:(lE key).1.length≤255:=by
  have h:(lE key).1.length=EC key:=by rw [lE];exact nV _ _
  have:=aIf key;omega
 have HW:Hid (∀W B,RB W B (lE key).2→Calls Tryz.prog 248 #[.pointer (some ⟨B,0,none⟩)] W fun e w'=>e=.returned (.bool (kP (lE key).2))∧w'=W):=fun W B h=>aHo B _ W h;have HC:Hid _:=fun W a c h hU hc=>aFd a c _ W h hbig (by omega) hc hU;have HT:Hid (wF w):=hT;have HBX:Hid (RB (w.alloc (.cells #[.string key,.bool false] 330)) w.heap.size ⟨key,false⟩∧Below w.heap.size w (w.alloc (.cells #[.string key,.bool false] 330))):=⟨heap_alloc_new _ _,bA _ _⟩
 have hbx:w.heap.size<(w.alloc (.cells #[.string key,.bool false] 330)).heap.size:=by simp
 have HDV:Hid (zD key=if (kP (lE key).2&&jM (lE key).1)=true then ((lE key).1,true) else ([],false)):=by show _=_;rw [zD]
 clear hT hbig;generalize kP (lE key).2=wb at *;generalize jM (lE key).1=cb at *;generalize (lE key).1=L at *;generalize (lE key).2=rr at *;cases wb with
 | true=>
   cases cb with
   | true=>
     have E:Hid (zD key=(L,true)):=HDV.out;rw [E.out];go_enter Tryz.func220,Tryz.ntmps220;go_wp2_with fail;refine (HL.out _ _ HBX.out.1).mono ?_;rintro e w1 ⟨g,cap,rfl,ho1,hr1,hb1⟩;obtain ⟨hcap,_,_,_⟩:=eL ho1;have H1:Hid (RB w1 w.heap.size rr∧pD w1 w.heap.size (some ⟨g,0,none⟩) L∧Below w.heap.size w w1):=⟨hr1,(zL ho1).mono (by omega),HBX.out.2.trans (hb1.below (Nat.le_refl _) (by omega))⟩
     clear ho1 hr1 hb1 HBX hbx;go_wp2_with fail;refine (HW.out _ _ H1.out.1).mono ?_;rintro e w2 ⟨rfl,hw⟩;replace hw:=hw.symm;subst hw;go_wp2_with fail;refine (HC.out _ _ _ H1.out.2.1.labs (HT.out.later H1.out.2.2) hcap).mono ?_;rintro e w3 ⟨rfl,hb3⟩;have H3:Hid (pD w3 w.heap.size (some ⟨g,0,none⟩) L∧Below w.heap.size w w3):=⟨H1.out.2.1.later hb3,rA H1.out.2.2 hb3⟩
     clear hb3;go_wp2;refine bodyPost_ret (v:=.tuple #[.slice (some ⟨g,0,none⟩) L.length cap,.bool true]) (by simp [results,Tryz.results220,go_sem]) rfl ⟨_,_,rfl,H3.out⟩
   | false=>
     have E:Hid (zD key=([],false)):=HDV.out;rw [E.out];go_enter Tryz.func220,Tryz.ntmps220;go_wp2_with fail;refine (HL.out _ _ HBX.out.1).mono ?_;rintro e w1 ⟨g,cap,rfl,ho1,hr1,hb1⟩;obtain ⟨hcap,_,_,_⟩:=eL ho1;have H1:Hid (RB w1 w.heap.size rr∧pD w1 w.heap.size (some ⟨g,0,none⟩) L∧Below w.heap.size w w1):=⟨hr1,(zL ho1).mono (by omega),HBX.out.2.trans (hb1.below (Nat.le_refl _) (by omega))⟩
     clear ho1 hr1 hb1 HBX hbx;go_wp2_with fail;refine (HW.out _ _ H1.out.1).mono ?_;rintro e w2 ⟨rfl,hw⟩;replace hw:=hw.symm;subst hw;go_wp2_with fail;refine (HC.out _ _ _ H1.out.2.1.labs (HT.out.later H1.out.2.2) hcap).mono ?_;rintro e w3 ⟨rfl,hb3⟩;have H3:Hid _:=rA H1.out.2.2 hb3;clear hb3;go_wp2;refine bodyPost_ret (v:=.tuple #[.slice none 0 0,.bool false]) (by simp [results,Tryz.results220,go_sem]) rfl ⟨_,_,rfl,Or.inl rfl,H3.out⟩
 | false=>
   have E:Hid (zD key=([],false)):=HDV.out;rw [E.out];go_enter Tryz.func220,Tryz.ntmps220;go_wp2_with fail;refine (HL.out _ _ HBX.out.1).mono ?_;rintro e w1 ⟨g,cap,rfl,ho1,hr1,hb1⟩;have H1:Hid (RB w1 w.heap.size rr∧Below w.heap.size w w1):=⟨hr1,HBX.out.2.trans (hb1.below (Nat.le_refl _) (by omega))⟩
   clear ho1 hr1 hb1 HBX hbx;go_wp2_with fail;refine (HW.out _ _ H1.out.1).mono ?_;rintro e w2 ⟨rfl,hw⟩;replace hw:=hw.symm;subst hw;go_wp2;refine bodyPost_ret (v:=.tuple #[.slice none 0 0,.bool false]) (by simp [results,Tryz.results220,go_sem]) rfl ⟨_,_,rfl,Or.inl rfl,H1.out.2⟩
def uR (s:ByteArray) (p n:Nat):Nat:=tU (vR s p n)
def aK (s:ByteArray) (p n:Nat):Option (ByteArray×Nat):=if p+n≤s.size∧p+n+uR s p n≤s.size then some (s.extract (p+n) (p+n+uR s p n),p+n+uR s p n) else none
theorem aKo {t u:ByteArray}{a b:Int} (h1:t=u) (h2:a=b):Ending.returned (.tuple #[.string t,.int .i64 a])=.returned (.tuple #[.string u,.int .i64 b]):=by rw [h1,h2]
theorem QE (s:ByteArray) (n:Nat) (w:World):
 Calls Tryz.prog 182 #[.string s,.int .i64 (-1),.int .i64 (n:Nat)] w fun e w'=>e=.returned (.tuple #[.string ByteArray.empty,.int .i64 (-1)])∧w'=w:=by
 go_enter Tryz.func182,Tryz.ntmps182;go_wp2;go_ret2;exact ⟨rfl,rfl⟩
theorem lU (s:ByteArray) (p n:Nat) (w:World) (hs:s.size≤1000000000) (hp:p≤1000000000) (hn:n≤2) (h:aK s p n=none):
 Calls Tryz.prog 182 #[.string s,.int .i64 (p:Nat),.int .i64 (n:Nat)] w fun e w'=>e=.returned (.tuple #[.string ByteArray.empty,.int .i64 (-1)])∧w'=w:=by
 by_cases h1:p+n≤s.size
 ·have HG:Hid (∀W,Calls Tryz.prog 215 #[.string s,.int .i64 (p:Nat),.int .i64 (n:Nat)] W fun e w'=>e=.returned (.int .i64 (uR s p n:Nat))∧w'=W):=fun W=>BQ s p n W (by unfold maxLen;omega) h1 (by omega);have h2:¬p+n+uR s p n≤s.size:=fun h2=>by
   unfold aK at h;rw [if_pos ⟨h1,h2⟩] at h;exact absurd h (by simp)
  have hz:uR s p n<65536:=by
   have h3:=DO (vR s p n);rw [jR h1] at h3;have h4:256 ^ n≤256 ^ 2:=Nat.pow_le_pow_right (by omega) hn;unfold uR;omega
  clear h;generalize uR s p n=Z at *;go_enter Tryz.func182,Tryz.ntmps182;go_wp2_with fail;refine (HG.out _).mono ?_;rintro e w1 ⟨rfl,hw⟩;replace hw:=hw.symm;subst hw;go_wp2;go_ret2;exact ⟨rfl,rfl⟩
 ·clear h;go_enter Tryz.func182,Tryz.ntmps182;go_wp2;go_ret2;exact ⟨rfl,rfl⟩
theorem mU (s:ByteArray) (p n:Nat) (t:ByteArray) (q:Nat) (w:World) (hs:s.size≤1000000000) (hn:n≤2) (h:aK s p n=some (t,q)):
 Calls Tryz.prog 182 #[.string s,.int .i64 (p:Nat),.int .i64 (n:Nat)] w fun e w'=>e=.returned (.tuple #[.string t,.int .i64 (q:Nat)])∧w'=w:=by
 unfold aK at h;split at h
 ·rename_i hh;obtain ⟨h1,h2⟩:=hh;simp only [Option.some.injEq,Prod.mk.injEq] at h;have HG:Hid (∀W,Calls Tryz.prog 215 #[.string s,.int .i64 (p:Nat),.int .i64 (n:Nat)] W fun e w'=>e=.returned (.int .i64 (uR s p n:Nat))∧w'=W):=fun W=>BQ s p n W (by unfold maxLen;omega) h1 (by omega);have HT:Hid _:=h;clear h;generalize uR s p n=Z at *;go_enter Tryz.func182,Tryz.ntmps182;go_wp2_with fail;refine (HG.out _).mono ?_;rintro e w1 ⟨rfl,hw⟩;replace hw:=hw.symm;subst hw;go_wp2;go_ret2;exact ⟨aKo HT.out.1 (by rw [←HT.out.2];go_num),rfl⟩
 ·exact absurd h (by simp)
theorem aCn {s t:ByteArray}{n p:Nat}{pre post:List UInt8} (h:s.data.toList=pre++((nC n (t.size:Nat)).data.toList++(t.data.toList++post))) (hp:pre.length=p) (ht:t.size<256 ^ n):aK s p n=some (t,p+n+t.size):=by
 have hnz:(nC n (t.size:Nat)).data.toList.length=n:=by rw [←sM];exact yB n _
 have hz:uR s p n=t.size:=by
  unfold uR vR;rw [h,←hp,List.drop_left];have e:((nC n (t.size:Nat)).data.toList++(t.data.toList++post)).take n=(nC n (t.size:Nat)).data.toList:=List.take_left' hnz;rw [e];exact NK n t.size ht
 have hsz:s.size=p+n+t.size+post.length:=by
  rw [sM,h];simp only [List.length_append];rw [hp,hnz,←sM];omega
 unfold aK;rw [hz,if_pos ⟨by omega,by omega⟩];congr 2;apply sY;rw [wI,h,←List.append_assoc,←List.append_assoc];have hl:(pre++(nC n (t.size:Nat)).data.toList).length=p+n:=by rw [List.length_append,hp,hnz]
 have hl2:(pre++(nC n (t.size:Nat)).data.toList++t.data.toList).length=p+n+t.size:=by rw [List.length_append,hl,←sM]
 rw [List.take_left' hl2,List.drop_left' hl]
theorem aCo {s:ByteArray}{p n:Nat}{t:ByteArray}{q:Nat} (h:aK s p n=some (t,q)):q≤s.size∧t.size≤s.size∧p+n≤q:=by
 unfold aK at h;split at h
 ·rename_i hh;simp only [Option.some.injEq,Prod.mk.injEq] at h;obtain ⟨rfl,rfl⟩:=h;refine ⟨hh.2,?_,by omega⟩;simp;omega
 ·exact absurd h (by simp)
theorem ZQ (a a':Option Addr) (cap cap':Nat) (xs ys:List zA) (w:World) (hf:lD w a xs) (hf':lD w a' ys) (hx:xs.length≤2000000):
 Calls Tryz.prog 217 #[.slice a xs.length cap,.slice a' ys.length cap'] w fun e w'=>e=.returned (.bool (wE xs ys))∧Below w.heap.size w w':=by
 have HF:Hid (lD w a xs):=hf;have HF':Hid (lD w a' ys):=hf';clear hf hf';by_cases hl:xs.length=ys.length
 ·have hlb:((xs.length:Int) != (ys.length:Int))=false:=by simp [hl]
  have HL:Hid _:=hl;have hyx:ys.length≤xs.length∧xs.length≤ys.length:=by omega
  obtain ⟨hyx1,hyx2⟩:=hyx;clear hl;go_enter Tryz.func217,Tryz.ntmps217;go_wp2;go_loopw [5,13] (fun _ i wr=>∃k:Nat,k≤xs.length∧i=.int .i64 k∧Hid (wE xs ys=wE (xs.drop k) (ys.drop k))∧Below w.heap.size w wr) (fun _ i _=>xs.length - (intOf i).toNat)
  case atStart=>exact ⟨0,Nat.zero_le _,rfl,rfl,Below.refl _ _⟩
  case round=>
   obtain ⟨k,hk,rfl,HK,hbel⟩:=hrel;by_cases hlt:k<xs.length
   ·have hlt':k<ys.length:=by omega
    obtain ⟨b,o,rfl,hb,c0,c1⟩:=(HF.out.later hbel).at hlt;obtain ⟨b',o',rfl,hb',c0',c1'⟩:=(HF'.out.later hbel).at hlt';have HS:=WL xs ys k hlt hlt';have hne0:∀W,Sem.run Tryz.prog (binOp .neq 202 (.agg #[.string xs[k].name,.string xs[k].value]) (.agg #[.string ys[k].name,.string ys[k].value])) W=.ok (.bool (!dP xs[k] ys[k])) W:=fun W=>aOt.1 xs[k] ys[k] W;have hgd0:∀(op:BinOp) (p q:Operand) (W:World),Sem.run Tryz.prog (eqGuard op 202 p q (.agg #[.string xs[k].name,.string xs[k].value]) (.agg #[.string ys[k].name,.string ys[k].value])) W=.ok () W:=fun op p q W=>aOt.2 op p q xs[k] ys[k] W;have d0:=pA.cells c0;have d1:=pA.cells c1;have d0':=pA.cells c0';have d1':=pA.cells c1';clear c0 c1 c0' c1';have hne:=pA.there wr;cases he:dP xs[k] ys[k] with
    | true=>
      have E:Hid (wE xs ys=wE (xs.drop (k+1)) (ys.drop (k+1))):=by show _=_;rw [HK.out,HS,he,Bool.true_and]
      rw [he] at hne0;clear HS he;generalize xs[k].name=n1 at *;generalize xs[k].value=v1 at *;generalize ys[k].name=n2 at *;generalize ys[k].value=v2 at *;go_wp2_with fail;refine fA (by kernel_rfl) (by kernel_rfl) ?_;repeat (go_big_quiet_step (fail))
      refine wpQuiet_nil ?_;rintro _ ⟨x,rfl⟩;have HX:Hid _:=rA hbel x.h;clear d0 d1 d0' d1' hne;generalize x.w'=W2 at *;clear x;go_wp2;exact ⟨⟨k+1,by omega,by go_num,E.out,HX.out⟩,by simp [intOf];omega⟩
    | false=>
      have E:Hid (wE xs ys=false):=by show _=_;rw [HK.out,HS,he,Bool.false_and]
      rw [he] at hne0;clear HS he;generalize xs[k].name=n1 at *;generalize xs[k].value=v1 at *;generalize ys[k].name=n2 at *;generalize ys[k].value=v2 at *;go_wp2_with fail;refine fA (by kernel_rfl) (by kernel_rfl) ?_;repeat (go_big_quiet_step (fail))
      refine wpQuiet_nil ?_;rintro _ ⟨x,rfl⟩;have HX:Hid _:=rA hbel x.h;clear d0 d1 d0' d1' hne;generalize x.w'=W2 at *;clear x;go_wp2;go_ret;exact ⟨jA E.out.symm,HX.out⟩
   ·have E:Hid (wE xs ys=true):=by
     show _=_;rw [HK.out,List.drop_of_length_le (by omega),List.drop_of_length_le (by omega)];rfl
    go_wp2;go_ret;exact ⟨jA E.out.symm,hbel⟩
 ·have hlb:((xs.length:Int) != (ys.length:Int))=true:=by simp;omega
  have E:Hid _:=aAr hl;go_enter Tryz.func217,Tryz.ntmps217;go_wp2;go_ret;exact ⟨jA E.out.symm,Below.refl _ _⟩
theorem WW (a:Option Addr) (cap:Nat) (ls:List zA) (w:World) (hf:lD w a ls) (hB:RJ ls) (hlen:ls.length≤2000000) (hcap:ls.length≤cap):
 Calls Tryz.prog 183 #[.slice a ls.length cap] w fun e w'=>e=.returned (.string (vT ls))∧Below w.heap.size w w':=by
 have HC:Hid (Calls Tryz.prog 216 #[.slice a ls.length cap] w fun e w'=>DD e w w' (iB ls).1 (iB ls).2.1 (iB ls).2.2):=JJ a cap ls w hf hB hlen hcap;have HF:Hid (lD w a ls):=hf;have HB:Hid (RJ ls):=hB;have hcl:=DV ls;unfold DD at HC;clear hf hB;by_cases h0:(iB ls).2.1=0
 ·have h0b:(((iB ls).2.1:Int) != 0)=false:=by simp;omega
  have HSM:Hid (∀W af cf,lD W af (iB ls).1→lD W a ls→Calls Tryz.prog 217 #[.slice af (iB ls).1.length cf,.slice a ls.length cap] W fun e w'=>e=.returned (.bool (wE (iB ls).1 ls))∧Below W.heap.size W w'):=fun W af cf h1 h2=>ZQ af a cf cap _ ls W h1 h2 (by omega);by_cases hs:wE (iB ls).1 ls=true
  ·have hcan:jM ls=true:=by unfold jM;rw [h0,hs];rfl
   have E:Hid (vT ls=wP ls):=by show _=_;rw [vT,if_pos hcan]
   have h16:=DU hcan;have HNU:Hid (∀W,Calls Tryz.prog 55 #[.int .i64 1,.int .i64 (ls.length:Nat)] W fun e w'=>e=.returned (.string (nC 1 (ls.length:Nat)))∧Below W.heap.size W w'):=fun W=>bG 1 (ls.length:Nat) W (by omega) (by omega) (by omega);have hz1:=yB 1 (ls.length:Nat);have HKB:Hid (wP ls=nC 1 (ls.length:Nat)++xC ls):=rfl;have HSS:Hid _:=hs;clear h0 hs hcan;generalize (iB ls).1=C at *;generalize (iB ls).2.1=c1 at *;generalize (iB ls).2.2=c2 at *;generalize nC 1 (ls.length:Nat)=NB at *;go_enter Tryz.func183,Tryz.ntmps183;go_wp2_with fail;refine HC.out.mono ?_;rintro e w1 ⟨af,cf,rfl,hof,hb1⟩;have B1:Hid _:=hb1;have O1:Hid (lD w1 af C∧lD w1 a ls):=⟨hof.labs,HF.out.later hb1⟩
   clear hof hb1 HC;go_wp2_with fail;refine (HSM.out _ _ _ O1.out.1 O1.out.2).mono ?_;rintro e w2 ⟨rfl,hb2⟩;rw [HSS.out];have B2:Hid _:=rA B1.out hb2;clear hb2 O1 B1;go_wp2_with fail;refine (HNU.out _).mono ?_;rintro e w3 ⟨rfl,hb3⟩;have B3:Hid _:=rA B2.out hb3;clear hb3 B2;go_wp2;go_loopw [6,8,28] (fun out _ i wr=>∃(k:Nat) (st:ByteArray),k≤ls.length∧i=.int .i64 k∧out=.string st∧st.size≤1+k * 3000000000∧Hid (st=NB++xC (ls.take k))∧Below w.heap.size w wr) (fun _ _ i _=>ls.length - (intOf i).toNat)
   case atStart=>exact ⟨0,NB,Nat.zero_le _,rfl,rfl,by omega,by show _=_;simp [xC],B3.out⟩
   case round=>
    obtain ⟨k,st,hk,rfl,rfl,hst,HST,hbel⟩:=hrel;by_cases hlt:k<ls.length
    ·obtain ⟨b,o,rfl,hb,c0,c1⟩:=(HF.out.later hbel).at hlt;obtain ⟨hs1,hs2⟩:=HB.out k hlt;have HS8:Hid _:=fun W=>GP ls[k].name W hs1;have HS16:Hid _:=fun W=>BR ls[k].value W hs2;have hz8:=vS ls[k].name;have hz16:=dQ ls[k].value;have HT:=IC ls k hlt;have E2:Hid (st++(kY ls[k].name++iJ ls[k].value)=NB++xC (ls.take (k+1))):=by show _=_;rw [HT,HST.out,ByteArray.append_assoc]
     clear HT;generalize kY ls[k].name=S8 at *;generalize iJ ls[k].value=S16 at *;generalize ls[k].name=nm at *;generalize ls[k].value=va at *;have hz816:(S8++S16).size=S8.size+S16.size:=ByteArray.size_append;have hzst:(st++(S8++S16)).size=st.size+(S8.size+S16.size):=by rw [ByteArray.size_append,hz816]
     have d0:∀x:pA (wr.alloc (.cells #[.string nm,.string va] 202)),x.w'.cell? ⟨wr.heap.size,0,none⟩=some (.string nm):=pA.cells (by simp);have d1:∀x:pA (wr.alloc (.cells #[.string nm,.string va] 202)),x.w'.cell? ⟨wr.heap.size,1,none⟩=some (.string va):=pA.cells (by simp);have hne:=pA.there (wr.alloc (.cells #[.string nm,.string va] 202));have hnb:¬b=wr.heap.size:=by omega
     go_wp2_with fail;refine fA (by kernel_rfl) (by kernel_rfl) ?_;repeat (go_big_quiet_step (first | (go_at_call 57;exact oA (HS8.out _)) | (go_at_call 58;exact oA (HS16.out _))))
     refine wpQuiet_nil ?_;rintro _ ⟨x,rfl⟩;have HX:Hid _:=rA (rA hbel (bA _ _)) x.h;clear d0 d1 hne;generalize x.w'=W2 at *;clear x;go_wp2;exact ⟨⟨k+1,st++(S8++S16),by omega,by go_num,rfl,by omega,E2.out,HX.out⟩,by simp [intOf];omega⟩
    ·have E2:Hid (st=vT ls):=by
      show _=_;rw [E.out,HKB.out,HST.out,List.take_of_length_le (by omega)]
     go_wp2;go_ret;exact ⟨by rw [←E2.out];rfl,hbel⟩
  ·have hs':wE (iB ls).1 ls=false:=by simpa using hs
   have E:Hid (vT ls=ByteArray.empty):=by
    show _=_;rw [vT,if_neg];unfold jM;rw [hs',Bool.and_false];simp
   have HSS:Hid _:=hs';clear h0 hs hs';generalize (iB ls).1=C at *;generalize (iB ls).2.1=c1 at *;generalize (iB ls).2.2=c2 at *;go_enter Tryz.func183,Tryz.ntmps183;go_wp2_with fail;refine HC.out.mono ?_;rintro e w1 ⟨af,cf,rfl,hof,hb1⟩;have B1:Hid _:=hb1;have O1:Hid (lD w1 af C∧lD w1 a ls):=⟨hof.labs,HF.out.later hb1⟩
   clear hof hb1 HC;go_wp2_with fail;refine (HSM.out _ _ _ O1.out.1 O1.out.2).mono ?_;rintro e w2 ⟨rfl,hb2⟩;rw [HSS.out];have B2:Hid _:=rA B1.out hb2;clear hb2 O1 B1;go_wp2;go_ret;exact ⟨by rw [E.out];rfl,B2.out⟩
 ·have h0b:(((iB ls).2.1:Int) != 0)=true:=by simp;omega
  have E:Hid (vT ls=ByteArray.empty):=by
   show _=_;rw [vT,if_neg];unfold jM;rw [decide_eq_false h0];simp
  clear h0;generalize (iB ls).1=C at *;generalize (iB ls).2.1=c1 at *;generalize (iB ls).2.2=c2 at *;go_enter Tryz.func183,Tryz.ntmps183;go_wp2_with fail;refine HC.out.mono ?_;rintro e w1 ⟨af,cf,rfl,hof,hb1⟩;have B1:Hid _:=hb1;clear hof hb1 HC;go_wp2;go_ret;exact ⟨by rw [E.out];rfl,B1.out⟩
def lenOf:Value→Nat
 | .slice _ n _=>n
 | _=>0
def oN (key:ByteArray) (acc:List zA) (at_:Int):Prop:=∀ls,jM ls=true→wP ls=key→acc.length≤ls.length∧acc=ls.take acc.length∧at_=((1+(xC acc).size:Nat):Int)
theorem MM (l:zA) (r:List zA):(xC (l :: r)).data.toList=(nC 1 (l.name.size:Nat)).data.toList++(l.name.data.toList++((nC 2 (l.value.size:Nat)).data.toList++(l.value.data.toList++(xC r).data.toList))):=by
 simp [xC,kY,iJ]
theorem LJ (ls:List zA) (k:Nat) (h:k<ls.length):(wP ls).data.toList=((nC 1 (ls.length:Nat)).data.toList++(xC (ls.take k)).data.toList)++(xC (ls[k]:: ls.drop (k+1))).data.toList:=by
 have e:xC ls=xC (ls.take k)++xC (ls[k]:: ls.drop (k+1)):=by
  rw [←fK,←List.drop_eq_getElem_cons h,List.take_append_drop]
 rw [wP,e];simp
theorem aCq (ls:List zA) (k:Nat):((nC 1 (ls.length:Nat)).data.toList++(xC (ls.take k)).data.toList).length=1+(xC (ls.take k)).size:=by
 rw [List.length_append,←sM,←sM,yB]
theorem aGn {ls:List zA} (hc:jM ls=true) (k:Nat) (h:k<ls.length):aK (wP ls) (1+(xC (ls.take k)).size) 1=some (ls[k].name,1+(xC (ls.take k)).size+1+ls[k].name.size):=by
 have hs:=fT hc k h;refine aCn (post:=(nC 2 (ls[k].value.size:Nat)).data.toList++(ls[k].value.data.toList++(xC (ls.drop (k+1))).data.toList)) ?_ (aCq ls k) (by omega);rw [LJ ls k h,MM]
theorem aAk {ls:List zA} (hc:jM ls=true) (k:Nat) (h:k<ls.length):aK (wP ls) (1+(xC (ls.take k)).size+1+ls[k].name.size) 2=some (ls[k].value,1+(xC (ls.take k)).size+1+ls[k].name.size+2+ls[k].value.size):=by
 have hs:=fT hc k h;refine aCn (pre:=((nC 1 (ls.length:Nat)).data.toList++(xC (ls.take k)).data.toList)++((nC 1 (ls[k].name.size:Nat)).data.toList++ls[k].name.data.toList)) (post:=(xC (ls.drop (k+1))).data.toList) ?_ ?_ (by omega)
 ·rw [LJ ls k h,MM];simp only [List.append_assoc]
 ·rw [List.length_append,aCq,List.length_append,←sM,←sM,yB];omega
theorem MN (ls:List zA) (k:Nat) (h:k<ls.length):(xC (ls.take (k+1))).size=(xC (ls.take k)).size+1+ls[k].name.size+2+ls[k].value.size:=by
 rw [IC ls k h,ByteArray.size_append,ByteArray.size_append,vS,dQ];omega
theorem aHh (ls:List zA) (k:Nat):(xC (ls.take k)).size≤(xC ls).size:=by
 have e:xC ls=xC (ls.take k)++xC (ls.drop k):=by rw [←fK,List.take_append_drop]
 rw [e,ByteArray.size_append];omega
theorem qz (ls:List zA):(wP ls).size=1+(xC ls).size:=by rw [wP,ByteArray.size_append,yB]
theorem PT (key:ByteArray):oN key [] 1:=fun ls _ _=>⟨Nat.zero_le _,by simp,rfl⟩
theorem BH {key:ByteArray}{acc:List zA}{p:Nat} (h:oN key acc (p:Nat)) (hp:p<key.size):∀ls,jM ls=true→wP ls=key→∃hk:acc.length<ls.length,aK key p 1=some (ls[acc.length].name,p+1+ls[acc.length].name.size)∧aK key (p+1+ls[acc.length].name.size) 2=some (ls[acc.length].value,p+1+ls[acc.length].name.size+2+ls[acc.length].value.size):=by
 intro ls hc hk;obtain ⟨h1,h2,h3⟩:=h ls hc hk;have hpe:p=1+(xC acc).size:=by omega
 have hlt:acc.length<ls.length:=by
  rcases Nat.lt_or_ge acc.length ls.length with hlt | hge
  ·exact hlt
  ·exfalso;have e:acc=ls:=by rw [h2];exact List.take_of_length_le (by omega)
   have:=qz ls;rw [hk] at this;rw [e] at hpe;omega
 refine ⟨hlt,?_,?_⟩
 ·have:=aGn hc acc.length hlt;rw [←h2,hk,←hpe] at this;exact this
 ·have:=aAk hc acc.length hlt;rw [←h2,hk,←hpe] at this;exact this
theorem zz {key:ByteArray}{acc:List zA}{p:Nat} (h:oN key acc (p:Nat)) (hp:p<key.size){nm va:ByteArray}{q q2:Nat} (e1:aK key p 1=some (nm,q)) (e2:aK key q 2=some (va,q2)):oN key (acc++[⟨nm,va⟩]) (q2:Nat):=by
 intro ls hc hk;obtain ⟨hlt,g1,g2⟩:=BH h hp ls hc hk;obtain ⟨h1,h2,h3⟩:=h ls hc hk;rw [e1] at g1;simp only [Option.some.injEq,Prod.mk.injEq] at g1;obtain ⟨rfl,rfl⟩:=g1;rw [e2] at g2;simp only [Option.some.injEq,Prod.mk.injEq] at g2;obtain ⟨rfl,rfl⟩:=g2;have hl:(acc++[(⟨ls[acc.length].name,ls[acc.length].value⟩:zA)]).length=acc.length+1:=by simp
 have ht:acc++[(⟨ls[acc.length].name,ls[acc.length].value⟩:zA)]=ls.take (acc.length+1):=by
  rw [List.take_succ_eq_append_getElem hlt,←h2]
 refine ⟨by rw [hl];omega,by rw [hl];exact ht,?_⟩;rw [ht,MN ls acc.length hlt,←h2];have hpe:p=1+(xC acc).size:=by omega
 congr 1;omega
theorem BI {key:ByteArray}{acc:List zA}{p:Nat} (h:oN key acc (p:Nat)) (hp:p<key.size) (hn:aK key p 1=none∨∃nm q,aK key p 1=some (nm,q)∧aK key q 2=none) (acc':List zA) (a':Int):oN key acc' a':=by
 intro ls hc hk;exfalso;obtain ⟨hlt,g1,g2⟩:=BH h hp ls hc hk;rcases hn with hn | ⟨nm,q,hn1,hn2⟩
 ·rw [hn] at g1;exact absurd g1 (by simp)
 ·rw [hn1] at g1;simp only [Option.some.injEq,Prod.mk.injEq] at g1;obtain ⟨rfl,rfl⟩:=g1;rw [hn2] at g2;exact absurd g2 (by simp)
theorem aAl {key:ByteArray}{acc:List zA}{a:Int} (h:oN key acc a) (he:a≤0∨(key.size:Int)≤a∨16<acc.length):
 (zD key=(acc,true)∧vT acc=key∧0<key.size)∨(zD key=([],false)∧(key.size=0∨vT acc≠key)):=by
 cases hd:(zD key).2 with
 | true=>
   obtain ⟨hc,hk⟩:=NZ hd;obtain ⟨h1,h2,h3⟩:=h _ hc hk;have h16:=DU hc;have hkz:=qz (zD key).1;rw [hk] at hkz;have e:acc=(zD key).1:=by
    rcases Nat.lt_or_ge acc.length (zD key).1.length with hlt | hge
    ·exfalso;have ht:=MN (zD key).1 acc.length hlt;have hm:=aHh (zD key).1 (acc.length+1);rw [←h2] at ht;omega
    ·rw [h2];exact List.take_of_length_le (by omega)
   left;refine ⟨?_,?_,by omega⟩
   ·rw [e];cases hdk:zD key with
    | mk x y=>rw [hdk] at hd;simp only at hd ⊢;rw [hd]
   ·rw [e,vT,if_pos hc,hk]
 | false=>
   obtain ⟨h1,h2⟩:=CY hd;right;refine ⟨h1,?_⟩;by_cases hz:key.size=0
   ·exact Or.inl hz
   ·right;intro hk;unfold vT at hk;split at hk
    ·rename_i hc;exact h2 acc hc hk
    ·rw [←hk] at hz;exact hz rfl
theorem DQ {acc:List zA} (h:RJ acc){l:zA} (hl:l.name.size≤1000000000∧l.value.size≤1000000000):RJ (acc++[l]):=fun i hi=>by
 by_cases e:i<acc.length
 ·rw [List.getElem_append_left e];exact h i e
 ·rw [List.getElem_append_right (by omega)];simpa using hl
theorem BP (key:ByteArray) (w:World) (hs:key.size≤1000000000):
 Calls Tryz.prog 138 #[.string key] w fun e w'=>∃a cap,e=.returned (.tuple #[.slice a (zD key).1.length cap,.bool (zD key).2])∧pD w' w.heap.size a (zD key).1∧Below w.heap.size w w':=by
 obtain ⟨ti,hti,ht0,ht1,ht2⟩:=zW;have HI:Hid _:=hti;clear hti;go_enter Tryz.func138,Tryz.ntmps138;go_wp2;go_loopw [4,5,6,7,8,9] (fun out at_ _ _ _ _ wr=>∃(acc:List zA) (p:Int) (g cv:Nat),at_=.int .i64 p∧out=.slice (some ⟨g,0,none⟩) acc.length cv∧-1≤p∧p≤1000000000∧acc.length≤17∧Hid (RJ acc∧oN key acc p)∧Hid (wr.ownsRow w.heap.size 202 2 (.slice (some ⟨g,0,none⟩) acc.length cv) acc.length (sB acc))∧Below w.heap.size w wr) (fun out _ _ _ _ _ _=>18 - lenOf out)
 case atStart=>
  exact ⟨[],1,_,_,rfl,rfl,by omega,by omega,by simp,⟨fun i h=>absurd h (by simp),PT key⟩,World.ownsRow_made w #[] 0 (Nat.le_refl _) (by simp [maxLen]) (by simp),bA _ _⟩
 case round=>
  obtain ⟨acc,pI,g,cv,rfl,rfl,hp1,hp2,hal,HR,HROW,hbel⟩:=hrel;have hsz:=hbel.size;by_cases hgo:0<pI∧pI<(key.size:Int)∧acc.length≤16
  ·obtain ⟨hg1,hg2,hg3⟩:=hgo;obtain ⟨p,rfl⟩:∃p:Nat,pI=(p:Int):=⟨pI.toNat,by omega⟩
   have hpk:p<key.size:=by omega
   have hacc:((acc.length:Nat):Int)≤16:=by omega
   cases hn1:aK key p 1 with
   | none=>
     have HP1:Hid (∀W,Calls Tryz.prog 182 #[.string key,.int .i64 (p:Nat),.int .i64 1] W fun e w'=>e=.returned (.tuple #[.string ByteArray.empty,.int .i64 (-1)])∧w'=W):=fun W=>lU key p 1 W hs (by omega) (by omega) hn1;have HP2:Hid (∀W,Calls Tryz.prog 182 #[.string key,.int .i64 (-1),.int .i64 2] W fun e w'=>e=.returned (.tuple #[.string ByteArray.empty,.int .i64 (-1)])∧w'=W):=fun W=>QE key 2 W;have HRO:Hid (oN key (acc++[⟨ByteArray.empty,ByteArray.empty⟩]) (-1)):=BI HR.out.2 hpk (Or.inl hn1) _ _;clear hn1;generalize hEm:ByteArray.empty=em at *;have HEM:Hid (em.size=0):=by show _=_;rw [←hEm];rfl
     clear hEm;go_wp2_with fail;refine (HP1.out _).mono ?_;rintro e w1 ⟨rfl,hw⟩;replace hw:=hw.symm;subst hw;go_wp2_with fail;refine (HP2.out _).mono ?_;rintro e w1 ⟨rfl,hw⟩;replace hw:=hw.symm;subst hw;go_wp2_with (at_builtin;refine wpList_append_lies _ rfl _ _ _ rfl w.heap.size 202 ti _ 2 32 Tryz.underlying198 HI.out ht0 ht1 ht2 rfl (by omega) (.slice (some ⟨g,0,none⟩) acc.length cv) acc.length (sB acc) rfl (by exact yA HROW.out (bA _ _)) ⟨wr.heap.size,0,none⟩ 1 1 [.string em,.string em] rfl rfl (by exact World.news_of_block (cs:=#[.string em,.string em]) (heap_alloc_new _ _)) (by simp [Value.oneCell']) (by omega) (by simp [maxLen];omega) (by omega) (by simp;omega) (wr.heap.size+1) (by simp) ?_;intro g5 cap5 w5 hown5 hgrow5 hat5 hlt5);have hB5:=(rA hbel (bA _ _)).grown hgrow5 (by simp;omega) (fun q hq=>lH HROW.out q hq);have hle:(acc++[(⟨em,em⟩:zA)]).length=acc.length+1:=by simp
     have hxs:sB acc++[.string em,.string em]=sB (acc++[⟨em,em⟩]):=by rw [vD];rfl
     rw [hxs,←hle] at hown5;refine ⟨⟨acc++[(⟨em,em⟩:zA)],-1,g5,cap5,rfl,by rw [hle],by omega,by omega,by omega,⟨DQ HR.out.1 ⟨by rw [HEM.out];omega,by rw [HEM.out];omega⟩,HRO.out⟩,hown5,hB5⟩,by simp only [lenOf];omega⟩
   | some tq=>
     obtain ⟨nm,q⟩:=tq;obtain ⟨hq1,hq2,hq3⟩:=aCo hn1;have HP1:Hid (∀W,Calls Tryz.prog 182 #[.string key,.int .i64 (p:Nat),.int .i64 1] W fun e w'=>e=.returned (.tuple #[.string nm,.int .i64 (q:Nat)])∧w'=W):=fun W=>mU key p 1 nm q W hs (by omega) hn1;cases hn2:aK key q 2 with
     | none=>
       have HP2:Hid (∀W,Calls Tryz.prog 182 #[.string key,.int .i64 (q:Nat),.int .i64 2] W fun e w'=>e=.returned (.tuple #[.string ByteArray.empty,.int .i64 (-1)])∧w'=W):=fun W=>lU key q 2 W hs (by omega) (by omega) hn2;have HRO:Hid (oN key (acc++[⟨nm,ByteArray.empty⟩]) (-1)):=BI HR.out.2 hpk (Or.inr ⟨nm,q,hn1,hn2⟩) _ _;clear hn1 hn2;generalize hEm:ByteArray.empty=em at *;have HEM:Hid (em.size=0):=by show _=_;rw [←hEm];rfl
       clear hEm;go_wp2_with fail;refine (HP1.out _).mono ?_;rintro e w1 ⟨rfl,hw⟩;replace hw:=hw.symm;subst hw;go_wp2_with fail;refine (HP2.out _).mono ?_;rintro e w1 ⟨rfl,hw⟩;replace hw:=hw.symm;subst hw;go_wp2_with (at_builtin;refine wpList_append_lies _ rfl _ _ _ rfl w.heap.size 202 ti _ 2 32 Tryz.underlying198 HI.out ht0 ht1 ht2 rfl (by omega) (.slice (some ⟨g,0,none⟩) acc.length cv) acc.length (sB acc) rfl (by exact yA HROW.out (bA _ _)) ⟨wr.heap.size,0,none⟩ 1 1 [.string nm,.string em] rfl rfl (by exact World.news_of_block (cs:=#[.string nm,.string em]) (heap_alloc_new _ _)) (by simp [Value.oneCell']) (by omega) (by simp [maxLen];omega) (by omega) (by simp;omega) (wr.heap.size+1) (by simp) ?_;intro g5 cap5 w5 hown5 hgrow5 hat5 hlt5);have hB5:=(rA hbel (bA _ _)).grown hgrow5 (by simp;omega) (fun q hq=>lH HROW.out q hq);have hle:(acc++[(⟨nm,em⟩:zA)]).length=acc.length+1:=by simp
       have hxs:sB acc++[.string nm,.string em]=sB (acc++[⟨nm,em⟩]):=by rw [vD];rfl
       rw [hxs,←hle] at hown5;refine ⟨⟨acc++[(⟨nm,em⟩:zA)],-1,g5,cap5,rfl,by rw [hle],by omega,by omega,by omega,⟨DQ HR.out.1 ⟨by simp only;omega,by simp only;rw [HEM.out];omega⟩,HRO.out⟩,hown5,hB5⟩,by simp only [lenOf];omega⟩
     | some tq2=>
       obtain ⟨va,q2⟩:=tq2;obtain ⟨hr1,hr2,hr3⟩:=aCo hn2;have HP2:Hid (∀W,Calls Tryz.prog 182 #[.string key,.int .i64 (q:Nat),.int .i64 2] W fun e w'=>e=.returned (.tuple #[.string va,.int .i64 (q2:Nat)])∧w'=W):=fun W=>mU key q 2 va q2 W hs (by omega) hn2;have HRO:Hid (oN key (acc++[⟨nm,va⟩]) (q2:Nat)):=zz HR.out.2 hpk hn1 hn2;clear hn1 hn2;go_wp2_with fail;refine (HP1.out _).mono ?_;rintro e w1 ⟨rfl,hw⟩;replace hw:=hw.symm;subst hw;go_wp2_with fail;refine (HP2.out _).mono ?_;rintro e w1 ⟨rfl,hw⟩;replace hw:=hw.symm;subst hw;go_wp2_with (at_builtin;refine wpList_append_lies _ rfl _ _ _ rfl w.heap.size 202 ti _ 2 32 Tryz.underlying198 HI.out ht0 ht1 ht2 rfl (by omega) (.slice (some ⟨g,0,none⟩) acc.length cv) acc.length (sB acc) rfl (by exact yA HROW.out (bA _ _)) ⟨wr.heap.size,0,none⟩ 1 1 [.string nm,.string va] rfl rfl (by exact World.news_of_block (cs:=#[.string nm,.string va]) (heap_alloc_new _ _)) (by simp [Value.oneCell']) (by omega) (by simp [maxLen];omega) (by omega) (by simp;omega) (wr.heap.size+1) (by simp) ?_;intro g5 cap5 w5 hown5 hgrow5 hat5 hlt5);have hB5:=(rA hbel (bA _ _)).grown hgrow5 (by simp;omega) (fun q hq=>lH HROW.out q hq);have hle:(acc++[(⟨nm,va⟩:zA)]).length=acc.length+1:=by simp
       have hxs:sB acc++[.string nm,.string va]=sB (acc++[⟨nm,va⟩]):=by rw [vD];rfl
       rw [hxs,←hle] at hown5;refine ⟨⟨acc++[(⟨nm,va⟩:zA)],(q2:Nat),g5,cap5,rfl,by rw [hle],by omega,by omega,by omega,⟨DQ HR.out.1 ⟨by simp only;omega,by simp only;omega⟩,HRO.out⟩,hown5,hB5⟩,by simp only [lenOf];omega⟩
  ·have hex:=aAl HR.out.2 (by omega);obtain ⟨hcv,_,_,_⟩:=eL HROW.out;have HL:Hid (pD wr w.heap.size (some ⟨g,0,none⟩) acc):=zL HROW.out;have HK:Hid (Calls Tryz.prog 183 #[.slice (some ⟨g,0,none⟩) acc.length cv] wr fun e w'=>e=.returned (.string (vT acc))∧Below wr.heap.size wr w'):=WW _ cv acc wr HL.out.labs HR.out.1 (by omega) hcv;have HE0:Hid (key.toList.isEmpty=decide (key.size=0)):=by
    show _=_;rw [ByteArray.toList_eq,sM];cases key.data.toList<;>simp
   have hEx:(zD key=(acc,true)∧key.toList.isEmpty=false∧((vT acc).toList==key.toList)=true)∨(zD key=([],false)∧key.toList.isEmpty=true)∨(zD key=([],false)∧key.toList.isEmpty=false∧((vT acc).toList==key.toList)=false):=by
    rcases hex with ⟨h1,h2,h3⟩ | ⟨h1,h2⟩
    ·left;refine ⟨h1,?_,?_⟩
     ·rw [HE0.out];exact decide_eq_false (by omega)
     ·rw [h2];simp
    ·by_cases hz:key.size=0
     ·right;left;exact ⟨h1,by rw [HE0.out];exact decide_eq_true hz⟩
     ·right;right;refine ⟨h1,by rw [HE0.out];exact decide_eq_false hz,?_⟩;rw [←Bool.not_eq_true];intro hb;rcases h2 with h2 | h2
      ·exact hz h2
      ·exact h2 (toList_inj (by simpa using hb))
   have hgd:pI≤0∨(0<pI∧(key.size:Int)≤pI)∨(0<pI∧pI<(key.size:Int)∧(16:Int)<(acc.length:Nat)):=by omega
   clear hex HROW hgo HE0;generalize vT acc=KV at *;rcases hEx with ⟨h1,h2,h3⟩ | ⟨h1,h2⟩ | ⟨h1,h2,h3⟩
   ·have E:Hid _:=h1;clear h1;rcases hgd with hg | ⟨hg,hg'⟩ | ⟨hg,hg',hg''⟩
    all_goals
     go_wp2_with fail;refine HK.out.mono ?_;rintro e w2 ⟨rfl,hb2⟩;have H2:Hid (pD w2 w.heap.size (some ⟨g,0,none⟩) acc∧Below w.heap.size w w2):=⟨HL.out.later hb2,rA hbel hb2⟩
     clear hb2;go_wp2;refine bodyPost_ret (v:=.tuple #[.slice (some ⟨g,0,none⟩) acc.length cv,.bool true]) (by simp [results,Tryz.results138,go_sem]) rfl ⟨some ⟨g,0,none⟩,cv,?_,?_,H2.out.2⟩
     ·rw [E.out]
     ·rw [E.out];exact H2.out.1
   ·have E:Hid _:=h1;clear h1;rcases hgd with hg | ⟨hg,hg'⟩ | ⟨hg,hg',hg''⟩
    all_goals
     go_wp2;refine bodyPost_ret (v:=.tuple #[.slice (some ⟨wr.heap.size,0,none⟩) 0 0,.bool false]) (by simp [results,Tryz.results138,go_sem]) rfl ?_;first
      | exact ⟨some ⟨wr.heap.size,0,none⟩,0,by rw [E.out];rfl,by rw [E.out];exact Or.inl rfl,rA hbel (bA _ _)⟩
      | exact ⟨some ⟨wr.heap.size,0,none⟩,⟨0,by rw [E.out];rfl⟩,by rw [E.out];exact Or.inl rfl,rA hbel (bA _ _)⟩
      | exact ⟨⟨some ⟨wr.heap.size,0,none⟩,⟨0,by rw [E.out];rfl⟩,by rw [E.out];exact Or.inl rfl⟩,rA hbel (bA _ _)⟩
      | exact ⟨⟨some ⟨wr.heap.size,0,none⟩,0,by rw [E.out];rfl,by rw [E.out];exact Or.inl rfl⟩,rA hbel (bA _ _)⟩
   ·have E:Hid _:=h1;clear h1;rcases hgd with hg | ⟨hg,hg'⟩ | ⟨hg,hg',hg''⟩
    all_goals
     go_wp2_with fail;refine HK.out.mono ?_;rintro e w2 ⟨rfl,hb2⟩;have H2:Hid _:=rA hbel hb2;clear hb2;go_wp2;refine bodyPost_ret (v:=.tuple #[.slice (some ⟨w2.heap.size,0,none⟩) 0 0,.bool false]) (by simp [results,Tryz.results138,go_sem]) rfl ⟨some ⟨w2.heap.size,0,none⟩,0,?_,?_,rA H2.out (bA _ _)⟩
     ·rw [E.out];rfl
     ·rw [E.out];exact Or.inl rfl
end Go.Proofs.YtcneojllbkacoaaGreatDoor
