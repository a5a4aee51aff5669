import Derived.Test.YtcneojllbkacoaaGreatDoorJ09Fv
import Derived.Test.YtcneojllbkacoaaGreatDoorJ05Cells
import Derived.Shelf.Spec.SlicesInsert
import Derived.Lib.AppendZerosOnto
set_option maxRecDepth 100000
set_option maxHeartbeats 4000000
namespace Go.Proofs.YtcneojllbkacoaaGreatDoor
open Go.RowKit
theorem WG {v0 v1 u0 u1:Value} (h0:v0=u0) (h1:v1=u1):Ending.returned (.tuple #[v0,v1])=.returned (.tuple #[u0,u1]):=by rw [h0,h1]
def dF (t:ByteArray):List eA→Nat→Int
 | [],_=>-1
 | f :: r,i=>if (f.name.toList==t.toList)=true then i else dF t r (i+1)
theorem ZO (a:Option Addr) (cap:Nat) (fs:List eA) (c k0 cr fl:Int) (dn:Bool) (t:ByteArray) (w:World) (hf:kA w a fs) (hlen:fs.length≤maxLen):
 Calls Tryz.prog 140 #[.agg #[.slice a fs.length cap,.int .i64 c,.int .i64 k0,.int .i64 cr,.int .i64 fl,.bool dn],.string t] w fun e w'=>e=.returned (.int .i64 (dF t fs 0))∧Below w.heap.size w w':=by
 unfold maxLen at hlen;have HF:Hid (kA w a fs):=hf;clear hf;go_enter Tryz.func140,Tryz.ntmps140;go_wp2;go_loopw [5,6,10] (fun _ _ i wr=>∃k:Nat,k≤fs.length∧i=.int .i64 k∧dF t fs 0=dF t (fs.drop k) k∧Below w.heap.size w wr) (fun _ _ i _=>fs.length - (intOf i).toNat)
 case atStart=>exact ⟨0,Nat.zero_le _,rfl,rfl,bA _ _⟩
 case round=>
  obtain ⟨k,hk,rfl,hfd,hbel⟩:=hrel;have HFD:Hid _:=hfd;clear hfd;by_cases hlt:k<fs.length
  ·obtain ⟨b,o,rfl,hb,c0,c1,c2⟩:=(HF.out.later hbel).at hlt;have hd:=List.drop_eq_getElem_cons hlt;by_cases he:(fs[k].name.toList==t.toList)=true
   ·have E:Hid (dF t fs 0=k):=by show _=_;rw [HFD.out,hd,dF,if_pos he]
    clear hd;go_wp2;go_ret;exact ⟨jB E.out.symm,hbel.alloc hbel.size _⟩
   ·have he':(fs[k].name.toList==t.toList)=false:=by simpa using he
    have E:Hid (dF t fs 0=dF t (fs.drop (k+1)) (k+1)):=by show _=_;rw [HFD.out,hd,dF,if_neg he]
    clear hd he;go_wp2;exact ⟨⟨k+1,by omega,by go_num,E.out,hbel.alloc hbel.size _⟩,by simp [intOf];omega⟩
  ·go_wp2;go_ret;have e:fs.drop k=[]:=List.drop_eq_nil_of_le (by omega);exact ⟨jB (by rw [HFD.out,e];rfl),hbel⟩
def pR (fs:List eA):Prop:=∀i j (hi:i<j) (hj:j<fs.length),Op.bytesLess fs[i].name.toList fs[j].name.toList=true
theorem aGh {fs:List eA}{j:Nat} (h:iP fs (j+1)=true) (hj:j+1<fs.length):Op.bytesLess fs[j].name.toList fs[j+1].name.toList=true:=by
 simp [iP,List.getElem?_eq_getElem hj,List.getElem?_eq_getElem (show j<fs.length by omega)] at h;exact h.2
theorem YA {fs:List eA} (h:oF fs=true):pR fs:=by
 simp only [oF,bO,List.all_eq_true,List.mem_range] at h;intro i j hi hj;induction j with
 | zero=>omega
 | succ j ih=>
   have hs:=aGh (h (j+1) hj) hj;by_cases e:i=j
   ·subst e;exact hs
   ·exact eG _ _ _ (ih (by omega) (by omega)) hs
def mO (fs:List eA) (t:ByteArray) (i:Nat):Prop:=i≤fs.length∧(∀j (h:j<fs.length),j<i→Op.bytesLess fs[j].name.toList t.toList=true)∧(∀j (h:j<fs.length),i≤j→Op.bytesLess fs[j].name.toList t.toList=false)
def vA (t:ByteArray):List eA→Nat
 | []=>0
 | f :: r=>if Op.bytesLess f.name.toList t.toList=true then vA t r+1 else 0
theorem mO.uniq {fs:List eA}{t:ByteArray}{i j:Nat} (h:mO fs t i) (k:mO fs t j):i=j:=by
 rcases Nat.lt_trichotomy i j with hlt | he | hlt
 ·have a:=k.2.1 i (by have:=k.1;omega) hlt;have b:=h.2.2 i (by have:=k.1;omega) (Nat.le_refl _);rw [a] at b;exact absurd b (by simp)
 ·exact he
 ·have a:=h.2.1 j (by have:=h.1;omega) hlt;have b:=k.2.2 j (by have:=h.1;omega) (Nat.le_refl _);rw [a] at b;exact absurd b (by simp)
def mG (fs:List eA) (t:ByteArray) (i:Nat):Bool:=match fs[i]? with
 | none=>false
 | some f=>f.name.toList==t.toList
theorem SL {x y:ByteArray}:(dS x y<0) ↔ Op.bytesLess x.toList y.toList=true:=by
 unfold dS;split<;>(try split)<;>simp_all
theorem aDv {x y:ByteArray}:(dS x y==0)=(x.toList==y.toList):=by
 unfold dS;by_cases h:Op.bytesLess x.toList y.toList=true
 ·rw [if_pos h];have:(x.toList==y.toList)=false:=by
   rw [beq_eq_false_iff_ne];intro e;rw [e,gE] at h;exact absurd h (by simp)
  rw [this];rfl
 ·rw [if_neg h];by_cases e:(x.toList==y.toList)=true
  ·rw [if_pos e,e];rfl
  ·rw [if_neg e];simp at e;simp [e]
theorem aAs (a:Option Addr) (cap:Nat) (fs:List eA) (t:ByteArray) (w:World) (hf:kA w a fs) (hasc:pR fs) (hlen:fs.length≤1048576):
 Calls Tryz.prog 207 #[.slice a fs.length cap,.string t,.func (.func 208) #[] #[]] w fun e w'=>
  ∃i,mO fs t i∧e=.returned (.tuple #[.int .i64 i,.bool (mG fs t i)])∧Below w.heap.size w w':=by
 have HF:Hid (kA w a fs):=hf;have HA:Hid (pR fs):=hasc;clear hf hasc;go_enter Tryz.func207,Tryz.ntmps207;go_wp2;go_loopw [9,10,11] (fun i j _ wr=>∃lo hi:Nat,i=.int .i64 lo∧j=.int .i64 hi∧lo≤hi∧hi≤fs.length∧(∀m (h:m<fs.length),m<lo→Op.bytesLess fs[m].name.toList t.toList=true)∧
  (∀m (h:m<fs.length),hi≤m→Op.bytesLess fs[m].name.toList t.toList=false)∧Below w.heap.size w wr) (fun i j _ _=>(intOf j).toNat - (intOf i).toNat)
 case atStart=>exact ⟨0,fs.length,rfl,rfl,Nat.zero_le _,Nat.le_refl _,fun m h k=>absurd k (by omega),fun m h k=>absurd k (by omega),Below.refl _ _⟩
 case round=>
  obtain ⟨lo,hi,rfl,rfl,hle,hhi,hlo',hhi',hbel⟩:=hrel;have HLO:Hid _:=hlo';have HHI:Hid _:=hhi';clear hlo' hhi';by_cases hlt:lo<hi
  ·obtain ⟨m,hm⟩:∃m:Nat,m=(lo+hi) / 2:=⟨_,rfl⟩
   have em:((lo:Int)+(hi:Int)) / 2=(m:Int):=by omega
   have hm1:lo≤m:=by omega
   have hm2:m<hi:=by omega
   have hm3:m<fs.length:=by omega
   clear hm;obtain ⟨b,o,rfl,hb,c0,c1,c2⟩:=(HF.out.later hbel).at hm3;by_cases hc:Op.bytesLess fs[m].name.toList t.toList=true
   ·have hz:=SL.2 hc;have HC:Hid _:=hc;clear hc;go_wp2_with fail;refine (aV _ _ _ _ _).mono ?_;rintro e w' ⟨rfl,hb2⟩;go_wp2;refine ⟨⟨m+1,hi,by go_num,rfl,by omega,hhi,fun j hj hjm=>?_,HHI.out,hbel.trans (hb2.mono hbel.size)⟩,by simp [intOf];omega⟩;by_cases e:j=m
    ·subst e;exact HC.out
    ·exact eG _ _ _ (HA.out j m (by omega) hm3) HC.out
   ·have hz:¬dS fs[m].name t<0:=fun h=>hc (SL.1 h);have HC:Hid (Op.bytesLess fs[m].name.toList t.toList=false):=by show _=_;simpa using hc
    clear hc;go_wp2_with fail;refine (aV _ _ _ _ _).mono ?_;rintro e w' ⟨rfl,hb2⟩;go_wp2;refine ⟨⟨lo,m,rfl,rfl,hm1,by omega,HLO.out,fun j hj hjm=>?_,hbel.trans (hb2.mono hbel.size)⟩,by simp [intOf];omega⟩;by_cases e:j=m
    ·subst e;exact HC.out
    ·rw [Bool.eq_false_iff];intro h;have:=eG _ _ _ (HA.out m j (by omega) hj) h;rw [HC.out] at this;exact absurd this (by simp)
  ·obtain rfl:lo=hi:=by omega
   have HP:Hid (mO fs t lo):=⟨hhi,HLO.out,HHI.out⟩
   by_cases hn:lo<fs.length
   ·obtain ⟨b,o,rfl,hb,c0,c1,c2⟩:=(HF.out.later hbel).at hn;have E:Hid ((dS fs[lo].name t==0)=mG fs t lo):=by show _=_;rw [aDv];simp [mG,List.getElem?_eq_getElem hn]
    go_wp2_with fail;refine (aV _ _ _ _ _).mono ?_;rintro e w' ⟨rfl,hb2⟩;go_wp2;go_ret2;exact ⟨lo,HP.out,WG rfl (congrArg Value.bool E.out),hbel.trans (hb2.mono hbel.size)⟩
   ·have E:Hid (mG fs t lo=false):=by show _=_;simp [mG,List.getElem?_eq_none (Nat.not_lt.1 hn)]
    go_wp2;go_ret2;exact ⟨lo,HP.out,WG rfl (congrArg Value.bool E.out.symm),hbel⟩
theorem wQ (a:Option Addr) (cap:Nat) (fs:List eA) (t:ByteArray) (w:World) (hf:kA w a fs) (hasc:pR fs) (hlen:fs.length≤1048576):
 Calls Tryz.prog 168 #[.slice a fs.length cap,.string t] w fun e w'=>
  ∃i,mO fs t i∧e=.returned (.tuple #[.int .i64 i,.bool (mG fs t i)])∧Below w.heap.size w w':=by
 have HF:Hid (kA w a fs):=hf;have HA:Hid (pR fs):=hasc;clear hf hasc;go_enter Tryz.func168,Tryz.ntmps168;go_wp2_with fail;refine (aAs a cap fs t _ HF.out HA.out hlen).mono ?_;rintro e w' ⟨i,hp,rfl,hb⟩;have HP:Hid (mO fs t i):=hp;clear hp;go_wp2;go_ret2;exact ⟨i,HP.out,rfl,hb⟩
theorem TI {fs:List eA}{t:ByteArray} (ha:pR fs){i:Nat} (hp:mO fs t i):dF t fs 0=if mG fs t i=true then (i:Int) else -1:=by
 have gen:∀(n k:Nat),k+n=fs.length→(∀j (h:j<fs.length),j<k→(fs[j].name.toList==t.toList)=false)→dF t (fs.drop k) k=if mG fs t i=true then (i:Int) else -1:=by
  intro n;induction n with
  | zero=>
    intro k hk hno;rw [List.drop_eq_nil_of_le (by omega),dF];rw [if_neg];intro h;unfold mG at h;split at h
    ·exact absurd h (by simp)
    ·rename_i f hf;obtain ⟨hlt,rfl⟩:=List.getElem?_eq_some_iff.1 hf;rw [hno i hlt (by omega)] at h;exact absurd h (by simp)
  | succ n ih=>
    intro k hk hno;have hlt:k<fs.length:=by omega
    rw [List.drop_eq_getElem_cons hlt,dF];by_cases he:(fs[k].name.toList==t.toList)=true
    ·rw [if_pos he];have hq:mO fs t k:=by
      have e:fs[k].name.toList=t.toList:=by simpa using he
      refine ⟨by omega,fun j hj hjk=>?_,fun j hj hkj=>?_⟩
      ·rw [←e];exact ha j k hjk hlt
      ·rw [←e];by_cases ej:j=k
       ·subst ej;exact gE _
       ·exact zK (ha k j (by omega) hj)
     obtain rfl:=hp.uniq hq;rw [if_pos];simp [mG,List.getElem?_eq_getElem hlt,he]
    ·rw [if_neg he];refine ih (k+1) (by omega) fun j hj hjk=>?_;by_cases ej:j=k
     ·subst ej;simpa using he
     ·exact hno j hj (by omega)
 have:=gen fs.length 0 (by omega) (fun j _ h=>absurd h (by omega));simpa using this
def iI (fs:List eA) (i:Nat) (f:eA):List eA:=fs.take i++f :: fs.drop i
theorem xL (fs:List eA) (i:Nat) (f:eA) (h:i≤fs.length):(iI fs i f).length=fs.length+1:=by simp [iI];omega
theorem LF (fs:List eA) (i:Nat) (f:eA):flat (iI fs i f)=flat (fs.take i)++(flat [f]++flat (fs.drop i)):=by
 rw [iI,tE,show f :: fs.drop i=[f]++fs.drop i from rfl,tE]
def bW (w:World) (vb:Nat) (f:eA):Prop:=lA w vb #[.string f.name,.string f.data,.int .i64 f.synced] 116
theorem bW.cells {w:World}{vb:Nat}{f:eA} (h:bW w vb f):∀j u,(flat [f])[j]?=some u→w.cell? ⟨vb,j,none⟩=some u:=fun j u hu=>by
 rw [lA.cell h,←hu];simp [flat]
theorem LG {w:World}{g i n:Nat}{fs:List eA}{f:eA} (hn:fs.length=n) (hi:i≤n) (h0:∀j u,j<i * 3→(flat fs)[j]?=some u→w.cell? ⟨g,j,none⟩=some u) (h1:∀j u,(flat [f])[j]?=some u→w.cell? ⟨g,i * 3+j,none⟩=some u)
 (h2:∀j u,(flat (fs.drop i))[j]?=some u→w.cell? ⟨g,(i+1) * 3+j,none⟩=some u):∀j u,(flat (iI fs i f))[j]?=some u→w.cell? ⟨g,j,none⟩=some u:=by
 intro j u hu;have htl:(flat (fs.take i)).length=i * 3:=by rw [cD,List.length_take];omega
 have h3:(flat [f]).length=3:=rfl;rw [LF] at hu;by_cases a1:j<i * 3
 ·rw [List.getElem?_append_left (by omega),rL fs i j (by omega) a1] at hu;exact h0 j u a1 hu
 ·rw [List.getElem?_append_right (by omega),htl] at hu;by_cases a2:j - i * 3<3
  ·rw [List.getElem?_append_left (by omega)] at hu;have:=h1 _ _ hu;rwa [show i * 3+(j - i * 3)=j by omega] at this
  ·rw [List.getElem?_append_right (by omega),h3] at hu;have:=h2 _ _ hu;rwa [show (i+1) * 3+(j - i * 3 - 3)=j by omega] at this
theorem OV (B g cap i vb:Nat) (fs:List eA) (f:eA) (w:World) (hown:w.ownsRow B 116 3 (.slice (some ⟨g,0,none⟩) fs.length cap) fs.length (flat fs)) (hv:bW w vb f) (hvb:vb≠g) (hi:i<fs.length) (hroom:fs.length+1≤cap) (hlen:fs.length≤1048576):
 Calls Tryz.prog 206 #[.slice (some ⟨g,0,none⟩) fs.length cap,.int .i64 i,.slice (some ⟨vb,0,none⟩) 1 1] w fun e w'=>
  e=.returned (.slice (some ⟨g,0,none⟩) (fs.length+1) cap)∧w'.ownsRow B 116 3 (.slice (some ⟨g,0,none⟩) (fs.length+1) cap) (fs.length+1) (flat (iI fs i f))∧oC (fun k=>k=g) w w':=by
 obtain ⟨cur,hB,_,hblk,hnc,hcm,hsz,hcs⟩:=xM hown;obtain ⟨i0,hi0,hz0,hz1,hz2⟩:=cH;obtain ⟨n,hn⟩:∃n,fs.length=n:=⟨_,rfl⟩
 rw [hn] at hi hroom hlen hnc ⊢;have hsize:(Tryz.prog.info? 116).map (·.size)=some 3:=by rw [hi0];simp [hz1]
 have hrunz:∀w,(Go.sizeOf 116).run Tryz.prog w=.ok 3 w:=fun w=>by simp [sizeOf,typeInfo,hi0,hz1]
 have hthere:∀j,j<cap * 3→(w.cell? ⟨g,j,none⟩).isSome=true:=fun j hj=>by obtain ⟨v,hv⟩:=hblk.there (j:=j) (by omega);rw [hv];rfl
 have hov:∀lb cb,(callFunc 239 #[.slice (some ⟨vb,0,none⟩) 1 1,.slice (some ⟨g,(i+1) * 3,none⟩) lb cb]).run Tryz.prog w=.ok (.value (.bool false)) w:=fun lb cb=>by
  rw [run_callFunc_extern Tryz.func239 (by kernel_rfl) (by kernel_rfl) (by kernel_rfl) (e:=Extern.SlicesOverlaps.overlaps #[37,37] #[4]) (by kernel_rfl),
   Lib.run_overlaps_apart w 37 4 116 Tryz.underlying37 3 hrunz ⟨vb,0,none⟩ ⟨g,(i+1) * 3,none⟩ 1 1 lb cb hvb 116 116 3 cur.size (by unfold bW lA at hv;simp [World.shape?,hv]) (by unfold lA at hblk;simp [World.shape?,hblk]) (by omega) (lA.free hv _) (lA.free hv _)]
  rfl
 obtain ⟨mv,hmv⟩:∃mv,mv=flat (fs.drop i):=⟨_,rfl⟩
 have hmvl:mv.length=(n - i) * 3:=by rw [hmv,cD,List.length_drop,hn]
 have hcp1:∀ty dc sc,(Builtin.copy_ #[37,37] ty #[.slice (some ⟨g,(i+1) * 3,none⟩) (n - i) dc,.slice (some ⟨g,i * 3,none⟩) (n+1 - i) sc]).run Tryz.prog w.drew=.ok (goInt ((n - i:Nat):Int)) (w.drew.setCells g ((i+1) * 3) mv):=fun ty dc sc=>
  tL w.drew _ _ ty 116 g ((i+1) * 3) (n - i) dc ⟨g,i * 3,none⟩ (n+1 - i) sc (n - i) 3 mv Tryz.underlying37 hsize (by simp only [Nat.min_def];split<;>omega) hmvl
   (fun j v hj=>by rw [Addr.add_lit];exact hcs _ v (by rwa [hmv,eP fs i j (by omega)] at hj))
   (fun j hj=>hthere _ (by omega)) (fun j hj=>hblk.free _) (by rw [hmv];exact aE _)
 obtain ⟨W1,hW1⟩:∃W1,W1=w.drew.setCells g ((i+1) * 3) mv:=⟨_,rfl⟩
 obtain ⟨cur1,hb1,hs1⟩:=lA.setCells mv ((i+1) * 3) (show lA w.drew g cur 116 from hblk);rw [←hW1] at hb1 hcp1;have hv1:bW W1 vb f:=by rw [hW1];exact lA.keeps (S:=fun k=>k=g) hv (oC.setCells (S:=fun k=>k=g) rfl _ _ (oC.refl _ _).drew) hvb
 have hcp2:∀ty dc,(Builtin.copy_ #[37,37] ty #[.slice (some ⟨g,i * 3,none⟩) (n+1 - i) dc,.slice (some ⟨vb,0,none⟩) 1 1]).run Tryz.prog W1=.ok (goInt 1) (W1.setCells g (i * 3) (flat [f])):=fun ty dc=>
  tL W1 _ _ ty 116 g (i * 3) (n+1 - i) dc ⟨vb,0,none⟩ 1 1 1 3 (flat [f]) Tryz.underlying37 hsize (by simp only [Nat.min_def];split<;>omega) rfl
   (fun j v hj=>by rw [Addr.add_lit,Nat.zero_add];exact hv1.cells j v hj)
   (fun j hj=>by obtain ⟨v,hv⟩:=hb1.there (j:=i * 3+j) (by rw [hs1,hsz];simp [flat] at hj;omega);rw [hv];rfl) (fun j hj=>hb1.free _) (aE _)
 obtain ⟨cur2,hb2,hs2⟩:=lA.setCells (flat [f]) (i * 3) hb1;have HK:Hid (oC (fun k=>k=g) w (W1.setCells g (i * 3) (flat [f]))):=by
  show oC _ _ _;rw [hW1];exact oC.setCells (S:=fun k=>k=g) rfl _ _ (oC.setCells (S:=fun k=>k=g) rfl _ _ (oC.refl _ _).drew)
 have HO:Hid ((W1.setCells g (i * 3) (flat [f])).ownsRow B 116 3 (.slice (some ⟨g,0,none⟩) (n+1) cap) (n+1) (flat (iI fs i f))):=by
  refine bN hB hb2 hroom hcm (by rw [hs2,hs1,hsz]) (by rw [cD,xL _ _ _ (by omega),hn]) (LG hn (by omega) ?_ ?_ ?_)
  ·intro j u hj hu;rw [World.cell?_setCells_out g (flat [f]) (i * 3) W1 _ (fun _ _=>Or.inl hj),hW1,World.cell?_setCells_out g mv ((i+1) * 3) _ _ (fun _ _=>Or.inl (by show j<_;omega))];exact hcs j u hu
  ·intro j u hu;have hj:=(List.getElem?_eq_some_iff.1 hu).1;rw [World.cell?_setCells_in g (flat [f]) (i * 3) W1 (fun k hk=>by obtain ⟨v,hv⟩:=hb1.there (j:=i * 3+k) (by rw [hs1,hsz];simp [flat] at hk;omega);rw [hv];rfl) j hj,←hu,List.getElem?_eq_getElem]
  ·intro j u hu;rw [←hmv] at hu;have hj:=(List.getElem?_eq_some_iff.1 hu).1;rw [World.cell?_setCells_out g (flat [f]) (i * 3) W1 _ (fun _ _=>Or.inr (by simp [flat];omega)),hW1,
    World.cell?_setCells_in g mv ((i+1) * 3) w.drew (fun k hk=>hthere _ (by omega)) j hj,←hu,List.getElem?_eq_getElem]
 have hz2:¬((i:Int)=(n:Int)):=by omega
 have hz3:¬((cap:Int)<(n:Int)+1):=by omega
 have hw1:IntKind.i64.wrap ((i:Int)+1)=(i:Int)+1:=by rw [IntKind.wrap_i64];omega
 have hbd:(0:Int)≤(i:Int)+1:=by omega
 have hin:i≤n:=by omega
 have htn:((i:Int)+1).toNat=i+1:=by omega
 have hbe:¬(cap=i+1):=by omega
 have hb3:(i:Int)+1≤(n:Int)+1:=by omega
 have hb4:¬(cap=i):=by omega
 have hb5:(i:Int)≤(n:Int)+1:=by omega
 have hb6:((n:Int)+1).toNat=n+1:=by omega
 have hb7:(n:Int)+1≤(cap:Int):=by omega
 have hcm2:(cap:Int)≤9223372036854775807:=by unfold maxLen at hcm;omega
 clear hown hblk hb1 hcs hthere hv hv1 hsz hs1 hs2 hmv hmvl hW1 hz0 hrunz hsize hcm;go_enter Tryz.func206,Tryz.ntmps206;go_wp2_with (simp only [hov]);go_region_law (refine step_copy_runI rfl _ _ 37 37 rfl _ _ (by simp [Act.eval,Act.put]) (by simp [Act.eval,Act.put]) (hcp1 _ _ _) ?_)
 go_wp2_with (at_builtin;refine wpList_copy_runI _ rfl _ _ 37 37 rfl _ _ rfl rfl (hcp2 _ _) ?_);go_ret;exact ⟨rfl,HO.out,HK.out⟩
theorem pR.tail {f:eA}{r:List eA} (h:pR (f :: r)):pR r:=fun i j hi hj=>by
 have:=h (i+1) (j+1) (by omega) (by simp;omega);simpa using this
theorem pR.head {f:eA}{r:List eA} (h:pR (f :: r)) (j:Nat) (hj:j<r.length):Op.bytesLess f.name.toList r[j].name.toList=true:=by
 have:=h 0 (j+1) (by omega) (by simp;omega);simpa using this
theorem dI:∀{fs:List eA} (t:ByteArray),pR fs→mO fs t (vA t fs)
 | [],t,_=>⟨Nat.le_refl _,fun j h=>absurd h (by simp),fun j h=>absurd h (by simp)⟩
 | f :: r,t,ha=>by
   have ih:=dI t ha.tail;unfold vA;by_cases hl:Op.bytesLess f.name.toList t.toList=true
   ·rw [if_pos hl];refine ⟨by simp;exact ih.1,fun j hj hlt=>?_,fun j hj hge=>?_⟩
    ·cases j with
     | zero=>exact hl
     | succ j=>simpa using ih.2.1 j (by simpa using hj) (by omega)
    ·cases j with
     | zero=>omega
     | succ j=>simpa using ih.2.2 j (by simpa using hj) (by omega)
   ·rw [if_neg hl];refine ⟨Nat.zero_le _,fun j _ h=>absurd h (by omega),fun j hj _=>?_⟩;cases j with
    | zero=>simpa using hl
    | succ j=>
      have hj':j<r.length:=by simpa using hj
      show Op.bytesLess r[j].name.toList t.toList=false;rw [Bool.eq_false_iff];intro h;exact hl (eG _ _ _ (ha.head j hj') h)
theorem AM (a:Option Addr) (cap:Nat) (fs:List eA) (t:ByteArray) (w:World) (hf:kA w a fs) (hasc:pR fs) (hlen:fs.length≤1048576):
 Calls Tryz.prog 168 #[.slice a fs.length cap,.string t] w fun e w'=>e=.returned (.tuple #[.int .i64 (vA t fs),.bool (mG fs t (vA t fs))])∧Below w.heap.size w w':=by
 refine (wQ a cap fs t w hf hasc hlen).mono ?_;rintro e w' ⟨i,hp,rfl,hb⟩;obtain rfl:=hp.uniq (dI t hasc);exact ⟨rfl,hb⟩
theorem DA {fs:List eA}{t:ByteArray}{i:Nat} (h:mG fs t i=true):∃hi:i<fs.length,fs[i].name=t:=by
 unfold mG at h;split at h
 ·exact absurd h (by simp)
 ·rename_i f hf;obtain ⟨hlt,rfl⟩:=List.getElem?_eq_some_iff.1 hf;exact ⟨hlt,toList_inj (by simpa using h)⟩
def tB (fs:List eA) (t:ByteArray):List eA:=fs.filter fun f=>!(f.name.toList==t.toList)
def jE:List eA→eA→List eA
 | [],f=>[f]
 | g :: r,f=>if Op.bytesLess f.name.toList g.name.toList=true then f :: g :: r else g :: jE r f
theorem jY {fs:List eA}{t:ByteArray} (h:∀j (hj:j<fs.length),fs[j].name≠t):tB fs t=fs:=by
 unfold tB;rw [List.filter_eq_self];intro f hf;obtain ⟨j,hj,rfl⟩:=List.getElem_of_mem hf;simp only [Bool.not_eq_true',beq_eq_false_iff_ne,ne_eq];exact fun e=>h j hj (toList_inj e)
theorem lP:∀{fs:List eA}{i:Nat} (_:pR fs) (hi:i<fs.length),tB fs fs[i].name=fs.eraseIdx i
 | f :: r,0,ha,_=>by
   have e:tB (f :: r) f.name=tB r f.name:=by simp [tB]
   show tB (f :: r) f.name=r;rw [e];exact jY fun j hj e=>by
    have:=ha.head j hj;rw [e,gE] at this;exact absurd this (by simp)
 | f :: r,i+1,ha,hi=>by
   have hi':i<r.length:=by simpa using hi
   have ih:=lP ha.tail hi';have hne:(f.name.toList==(r[i]).name.toList)=false:=by
    rw [beq_eq_false_iff_ne];intro e;have:=ha.head i hi';rw [e,gE] at this;exact absurd this (by simp)
   show tB (f :: r) r[i].name=f :: r.eraseIdx i;rw [←ih];simp [tB,hne]
theorem pR.erase {fs:List eA} (h:pR fs) (i:Nat):pR (fs.eraseIdx i):=by
 intro a b hab hb;have hlb:b<fs.length:=by
  rw [List.length_eraseIdx] at hb;split at hb<;>omega
 rw [List.getElem_eraseIdx,List.getElem_eraseIdx];rw [List.length_eraseIdx] at hb;split<;>split
 ·exact h a b hab (by omega)
 ·exact h a (b+1) (by omega) (by split at hb<;>omega)
 ·omega
 ·exact h (a+1) (b+1) (by omega) (by split at hb<;>omega)
theorem LC {fs:List eA}{t:ByteArray} (ha:pR fs) (hb:mG fs t (vA t fs)=false):∀j (hj:j<fs.length),fs[j].name≠t:=by
 intro j hj e;have hp:=dI t ha;rcases Nat.lt_trichotomy j (vA t fs) with h | h | h
 ·have:=hp.2.1 j hj h;rw [e,gE] at this;exact absurd this (by simp)
 ·have:mG fs t j=true:=by simp [mG,List.getElem?_eq_getElem hj,e]
  rw [←h,this] at hb;exact absurd hb (by simp)
 ·have h1:=hp.2.2 (vA t fs) (by omega) (Nat.le_refl _);have h2:=ha (vA t fs) j h hj;rw [e] at h2;rw [h2] at h1;exact absurd h1 (by simp)
theorem eZ:∀{fs:List eA} (f:eA),pR fs→(∀j (hj:j<fs.length),fs[j].name≠f.name)→jE fs f=iI fs (vA f.name fs) f
 | [],f,_,_=>rfl
 | g :: r,f,ha,hn=>by
   have ih:=eZ f ha.tail (fun j hj=>by have:=hn (j+1) (by simp;omega);simpa using this);unfold jE vA;by_cases hl:Op.bytesLess g.name.toList f.name.toList=true
   ·rw [if_neg (by rw [zK hl];simp),if_pos hl,ih];simp [iI]
   ·have hne:g.name.toList≠f.name.toList:=fun e=>hn 0 (by simp) (toList_inj e);have hl2:=cI _ _ (by simpa using hl) hne;rw [if_pos hl2,if_neg hl];rfl
theorem aFc {fs:List eA}{i:Nat} (hi:i<fs.length) (f:eA):iI (fs.eraseIdx i) i f=fs.set i f:=by
 rw [iI,List.eraseIdx_eq_take_drop_succ,List.set_eq_take_append_cons_drop,if_pos hi];have h1:(fs.take i).length=i:=by rw [List.length_take];omega
 rw [List.take_append_of_le_length (by omega),List.take_of_length_le (by omega),List.drop_append_of_le_length (by omega),List.drop_eq_nil_of_le (by omega),List.nil_append]
theorem aGq {fs:List eA}{i:Nat} (ha:pR fs) (hi:i<fs.length):vA fs[i].name (fs.eraseIdx i)=i:=by
 refine (dI _ (ha.erase i)).uniq ⟨by rw [List.length_eraseIdx,if_pos hi];omega,fun j hj hlt=>?_,fun j hj hge=>?_⟩
 ·rw [List.getElem_eraseIdx,dif_pos hlt];exact ha j i hlt hi
 ·rw [List.getElem_eraseIdx,dif_neg (by omega)];rw [List.length_eraseIdx,if_pos hi] at hj;exact zK (ha i (j+1) (by omega) (by omega))
def qF (fs:List eA) (f:eA):List eA:=jE (tB fs f.name) f
theorem IJ {fs:List eA}{f:eA} (ha:pR fs) (hb:mG fs f.name (vA f.name fs)=false):qF fs f=iI fs (vA f.name fs) f:=by
 have hn:=LC ha hb;unfold qF;rw [jY hn];exact eZ f ha hn
theorem IK {fs:List eA}{f:eA}{i:Nat} (ha:pR fs) (hi:i<fs.length) (he:fs[i].name=f.name):qF fs f=fs.set i f:=by
 unfold qF;rw [←he,lP ha hi];have hn:∀j (hj:j<(fs.eraseIdx i).length),(fs.eraseIdx i)[j].name≠f.name:=fun j hj e=>by
  rw [List.getElem_eraseIdx] at e;rw [←he] at e;rw [List.length_eraseIdx,if_pos hi] at hj;split at e
  ·have:=ha j i (by omega) hi;rw [e,gE] at this;exact absurd this (by simp)
  ·have:=ha i (j+1) (by omega) (by omega);rw [e,gE] at this;exact absurd this (by simp)
 rw [eZ f (ha.erase i) hn,←he,aGq ha hi,aFc hi]
theorem UN (B g cap i vb:Nat) (fs:List eA) (f:eA) (w:World) (hown:w.ownsRow B 116 3 (.slice (some ⟨g,0,none⟩) fs.length cap) fs.length (flat fs)) (hv:bW w vb f) (hi:i<fs.length) (hroom:cap<fs.length+1) (hlen:fs.length≤1048576) (hBs:B≤w.heap.size):
 Calls Tryz.prog 206 #[.slice (some ⟨g,0,none⟩) fs.length cap,.int .i64 i,.slice (some ⟨vb,0,none⟩) 1 1] w fun e w'=>
  ∃cap',e=.returned (.slice (some ⟨w.heap.size,0,none⟩) (fs.length+1) cap')∧w'.ownsRow B 116 3 (.slice (some ⟨w.heap.size,0,none⟩) (fs.length+1) cap') (fs.length+1) (flat (iI fs i f))∧Below w.heap.size w w':=by
 obtain ⟨cur,hB,_,hblk,hnc,hcm,hsz,hcs⟩:=xM hown;obtain ⟨i0,hi0,hz0,hz1,hz2⟩:=cH;obtain ⟨n,hn⟩:∃n,fs.length=n:=⟨_,rfl⟩
 rw [hn] at hi hroom hlen hnc ⊢;have hsize:(Tryz.prog.info? 116).map (·.size)=some 3:=by rw [hi0];simp [hz1]
 have hgw:=aA hblk;have hvw:=aA hv;have hkk:(n:Int)+1 - (i:Int)=((n+1 - i:Nat):Int):=by omega
 have hik:i+(n+1 - i)=n+1:=by omega
 have htl:(flat (fs.take i)).length=i * 3:=by rw [cD,List.length_take];omega
 have hold:(Builtin.firstCells i0.size i (.slice (some ⟨g,0,none⟩) i cap)).run Tryz.prog w.drew=.ok (flat (fs.take i)).toArray w.drew:=by
  rw [hz1];exact run_firstCells_some w.drew 3 i ⟨g,0,none⟩ i cap (flat (fs.take i)) htl (fun j v hj=>by
   rw [Addr.add_lit,Nat.zero_add];have hlt:=(List.getElem?_eq_some_iff.1 hj).1;rw [rL fs i j (by omega) (by omega)] at hj;exact hcs j v hj)
 obtain ⟨G,hG⟩:∃G,G=grownCap w (n+1) cap 116:=⟨_,rfl⟩
 obtain ⟨ROW,hROW⟩:∃ROW:Array Value,ROW=(flat (fs.take i)).toArray++Builtin.zeroCells (Value.agg #[.string ByteArray.empty,.string ByteArray.empty,.int .i64 0]).cells (n+1 - i)++Builtin.zeroCells (Value.agg #[.string ByteArray.empty,.string ByteArray.empty,.int .i64 0]).cells (G - (n+1)):=⟨_,rfl⟩
 obtain ⟨W1,hW1⟩:∃W1,W1=w.drew.alloc (.cells ROW 116):=⟨_,rfl⟩
 have hrz:∀ty,(Builtin.append_ #[37,3] ty #[.slice (some ⟨g,0,none⟩) i cap,.int .i64 ((n:Int)+1 - (i:Int))]).run Tryz.prog w=.ok (.slice (some ⟨w.heap.size,0,none⟩) (n+1) G) W1:=fun ty=>by
  have h:=Lib.run_append_grow_zeros w 37 3 ty 116 i0 _ .i64 .i64 Tryz.underlying37 Tryz.underlying3 hi0 hz0 (some ⟨g,0,none⟩) i cap _ hold (n+1 - i) (by omega) (by omega) (by omega) (by omega) (by rw [hz2];omega) (by rw [hz2,hik];exact growslice_fits hroom (by omega));rw [hik,←hG,←hROW,←hW1] at h;rw [hkk];exact h
 have hGn:n+1≤G:=by rw [hG];exact grownCap_ge w _ _ _
 have hGm:G≤maxLen:=by rw [hG];exact grownCap_le_maxLen w (n+1) cap 116 (by unfold maxLen;omega)
 have hz3c:(Value.agg #[.string ByteArray.empty,.string ByteArray.empty,.int .i64 0]).cells.size=3:=rfl;have hRs:ROW.size=G * 3:=by
  rw [hROW];simp only [Array.size_append,List.size_toArray,size_zeroCells,hz3c,htl];omega
 have hb1:lA W1 w.heap.size ROW 116:=by rw [hW1];exact heap_alloc_new w.drew _
 have hbel1:Below w.heap.size w W1:=by rw [hW1];exact rA (Below.refl _ _).drew (bA _ _)
 have hv1:bW W1 vb f:=lA.later hv hbel1;have hg1:=hblk.later hbel1;have hcpA:∀ty dc,(Builtin.copy_ #[37,37] ty #[.slice (some ⟨w.heap.size,i * 3,none⟩) (n+1 - i) dc,.slice (some ⟨vb,0,none⟩) 1 1]).run Tryz.prog W1=.ok (goInt 1) (W1.setCells w.heap.size (i * 3) (flat [f])):=fun ty dc=>
  tL W1 _ _ ty 116 w.heap.size (i * 3) (n+1 - i) dc ⟨vb,0,none⟩ 1 1 1 3 (flat [f]) Tryz.underlying37 hsize (by simp only [Nat.min_def];split<;>omega) rfl
   (fun j v hj=>by rw [Addr.add_lit,Nat.zero_add];exact hv1.cells j v hj)
   (fun j hj=>by obtain ⟨v,hv⟩:=hb1.there (j:=i * 3+j) (by rw [hRs];simp [flat] at hj;omega);rw [hv];rfl) (fun j hj=>hb1.free _) (aE _)
 obtain ⟨W2,hW2⟩:∃W2,W2=W1.setCells w.heap.size (i * 3) (flat [f]):=⟨_,rfl⟩
 rw [←hW2] at hcpA;obtain ⟨cur2,hb2,hs2⟩:=lA.setCells (flat [f]) (i * 3) hb1;rw [←hW2] at hb2;have hk2:oC (fun k=>k=w.heap.size) W1 W2:=by rw [hW2];exact oC.setCells (S:=fun k=>k=w.heap.size) rfl _ _ (oC.refl _ _)
 have hg2:=hg1.keeps hk2 (by omega);obtain ⟨mv,hmv⟩:∃mv,mv=flat (fs.drop i):=⟨_,rfl⟩
 have hmvl:mv.length=(n - i) * 3:=by rw [hmv,cD,List.length_drop,hn]
 have hcs0:∀j u,(flat fs)[j]?=some u→cur[j]?=some u:=fun j u hu=>by rw [←hblk.cell];exact hcs j u hu
 have hcpB:∀ty dc sc,(Builtin.copy_ #[37,37] ty #[.slice (some ⟨w.heap.size,(i+1) * 3,none⟩) (n - i) dc,.slice (some ⟨g,i * 3,none⟩) (n - i) sc]).run Tryz.prog W2.drew=.ok (goInt ((n - i:Nat):Int)) (W2.drew.setCells w.heap.size ((i+1) * 3) mv):=fun ty dc sc=>
  tL W2.drew _ _ ty 116 w.heap.size ((i+1) * 3) (n - i) dc ⟨g,i * 3,none⟩ (n - i) sc (n - i) 3 mv Tryz.underlying37 hsize (by simp only [Nat.min_def];split<;>omega) hmvl
   (fun j v hj=>by
    rw [Addr.add_lit];show W2.cell? _=_;rw [hg2.cell];exact hcs0 _ v (by rwa [hmv,eP fs i j (by omega)] at hj))
   (fun j hj=>by obtain ⟨v,hv⟩:=hb2.there (j:=(i+1) * 3+j) (by rw [hs2,hRs];omega);show (W2.cell? _).isSome=true;rw [hv];rfl) (fun j hj=>hb2.free _) (by rw [hmv];exact aE _)
 obtain ⟨W3,hW3⟩:∃W3,W3=W2.drew.setCells w.heap.size ((i+1) * 3) mv:=⟨_,rfl⟩
 rw [←hW3] at hcpB;obtain ⟨cur3,hb3,hs3⟩:=lA.setCells mv ((i+1) * 3) (show lA W2.drew w.heap.size cur2 116 from hb2);rw [←hW3] at hb3;have HB:Hid (Below w.heap.size w W3):=by
  have k3:oC (fun k=>k=w.heap.size) W1 W3:=by rw [hW3];exact oC.setCells (S:=fun k=>k=w.heap.size) rfl _ _ hk2.drew
  exact hbel1.trans (k3.below (fun k e=>by omega) hbel1.size)
 have HO:Hid (W3.ownsRow B 116 3 (.slice (some ⟨w.heap.size,0,none⟩) (n+1) G) (n+1) (flat (iI fs i f))):=by
  refine bN hBs hb3 hGn hGm (by rw [hs3,hs2,hRs]) (by rw [cD,xL _ _ _ (by omega),hn]) (LG hn (by omega) ?_ ?_ ?_)
  ·intro j u hj hu;rw [hW3,World.cell?_setCells_out w.heap.size mv ((i+1) * 3) _ _ (fun _ _=>Or.inl (by show j<_;omega))];show W2.cell? _=_;rw [hW2,World.cell?_setCells_out w.heap.size (flat [f]) (i * 3) W1 _ (fun _ _=>Or.inl hj),hb1.cell,hROW];rw [←rL fs i j (by omega) hj] at hu;rw [Array.append_assoc,Array.getElem?_append_left (by simp [htl];omega)];simpa using hu
  ·intro j u hu;have hj:=(List.getElem?_eq_some_iff.1 hu).1;have hj3:j<3:=hj;rw [hW3,World.cell?_setCells_out w.heap.size mv ((i+1) * 3) _ _ (fun _ _=>Or.inl (by show i * 3+j<_;omega))];show W2.cell? _=_;rw [hW2,World.cell?_setCells_in w.heap.size (flat [f]) (i * 3) W1 (fun k hk=>by obtain ⟨v,hv⟩:=hb1.there (j:=i * 3+k) (by rw [hRs];simp [flat] at hk;omega);rw [hv];rfl) j hj,←hu,List.getElem?_eq_getElem]
  ·intro j u hu;rw [←hmv] at hu;have hj:=(List.getElem?_eq_some_iff.1 hu).1;rw [hW3,World.cell?_setCells_in w.heap.size mv ((i+1) * 3) W2.drew (fun k hk=>by obtain ⟨v,hv⟩:=hb2.there (j:=(i+1) * 3+k) (by rw [hs2,hRs];omega);show (W2.cell? _).isSome=true;rw [hv];rfl) j hj,←hu,List.getElem?_eq_getElem]
 have hq2:¬((i:Int)=(n:Int)):=by omega
 have hq3:(cap:Int)<(n:Int)+1:=by omega
 have hw1:IntKind.i64.wrap ((i:Int)+1)=(i:Int)+1:=by rw [IntKind.wrap_i64];omega
 have hbd:(0:Int)≤(i:Int)+1:=by omega
 have hin:i≤n:=by omega
 have htn:((i:Int)+1).toNat=i+1:=by omega
 have hb5:(i:Int)≤(n:Int)+1:=by omega
 have hb6:(i:Int)+1≤(n:Int)+1:=by omega
 have hGi:¬(G=i):=by omega
 have hGim:¬(G=i+1):=by omega
 have hci:¬(cap=i):=by omega
 have hic:(i:Int)≤(cap:Int):=by omega
 have hcm2:(cap:Int)≤9223372036854775807:=by unfold maxLen at hcm;omega
 clear hown hblk hcs hcs0 hv hv1 hsz hs2 hs3 hmv hmvl hW1 hW2 hW3 hz0 hsize hcm hb1 hb2 hb3 hg1 hg2 hk2 hbel1 hRs hROW hG hGm hold hkk hik htl hgw hvw;go_enter Tryz.func206,Tryz.ntmps206;go_wp2_with (first
  | (at_builtin;refine Lib.wpList_append_run _ rfl _ _ _ _ rfl _ _ rfl rfl _ _ (hrz _) ?_)
  | (at_builtin;refine wpList_copy_runI _ rfl _ _ 37 37 rfl _ _ rfl rfl (hcpA _ _) ?_))
 go_region_law (refine step_copy_runI rfl _ _ 37 37 rfl _ _ (by simp [Act.eval,Act.put]) (by simp [Act.eval,Act.put]) (hcpB _ _ _) ?_)
 go_wp2;go_ret;exact ⟨G,rfl,HO.out,HB.out⟩
theorem ZL (B vb:Nat) (v:Value) (fs:List eA) (f:eA) (w:World) (hown:w.ownsRow B 116 3 v fs.length (flat fs)) (hv:bW w vb f) (hlen:fs.length≤1048576) (hBs:B≤w.heap.size):
 Calls Tryz.prog 206 #[v,.int .i64 fs.length,.slice (some ⟨vb,0,none⟩) 1 1] w fun e w'=>
  ∃v',e=.returned v'∧w'.ownsRow B 116 3 v' (fs.length+1) (flat (iI fs fs.length f))∧oC (fun k=>v.ownBlock=some k) w w'∧(v'.ownBlock=v.ownBlock∨v'.ownBlock=some w.heap.size):=by
 obtain ⟨i0,hi0,hz0,hz1,hz2⟩:=cH;have hnews:Hid (∀j u,(flat [f])[j]?=some u→w.cell? ((⟨vb,0,none⟩:Addr).add j)=some u):=fun j u hu=>by
  rw [Addr.add_lit,Nat.zero_add];exact hv.cells j u hu
 have hfl:Hid (flat (iI fs fs.length f)=flat fs++flat [f]):=by
  show _=_;rw [LF];simp [flat]
 have HO:Hid (w.ownsRow B 116 3 v fs.length (flat fs)):=hown;have HI:Hid _:=hi0;clear hv hi0;rcases hown.2 with ⟨rfl,h0⟩ | ⟨g,cap,cur,rfl,hB,hg,hnc,hcm,_⟩
 ·obtain rfl:fs=[]:=List.length_eq_zero_iff.1 h0;clear hown;go_enter Tryz.func206,Tryz.ntmps206;go_wp2_with (at_builtin;refine wpList_append_own_at _ rfl _ _ _ rfl B 116 i0 _ 3 40 Tryz.underlying37 HI.out hz0 hz1 hz2 rfl (by omega) (.slice none 0 0) 0 [] rfl HO.out ⟨vb,0,none⟩ 1 1 (flat [f]) rfl rfl hnews.out (aE _) (by simp [maxLen]) (by omega) hBs ?_;intro v1 w1 hown1 hgrow _ hat);go_ret;exact ⟨v1,rfl,hown1,oC.grown hgrow fun g h=>h,hat⟩
 ·have hcm2:(cap:Int)≤9223372036854775807:=by unfold maxLen at hcm;omega
  clear hown hg;generalize hn:fs.length=n at *;go_enter Tryz.func206,Tryz.ntmps206;go_wp2_with (at_builtin;refine wpList_append_own_at _ rfl _ _ _ rfl B 116 i0 _ 3 40 Tryz.underlying37 HI.out hz0 hz1 hz2 rfl (by omega) (.slice (some ⟨g,0,none⟩) n cap) n (flat fs) rfl HO.out ⟨vb,0,none⟩ 1 1 (flat [f]) rfl rfl hnews.out (aE _) (by simp [maxLen];omega) (by omega) hBs ?_;intro v1 w1 hown1 hgrow _ hat);all_goals (go_ret;rw [hfl.out];exact ⟨v1,rfl,hown1,oC.grown hgrow fun g h=>h,hat⟩)
theorem FF (B vb i:Nat) (v:Value) (fs:List eA) (f:eA) (w:World) (hown:w.ownsRow B 116 3 v fs.length (flat fs)) (hv:bW w vb f) (hvb:v.ownBlock≠some vb) (hi:i≤fs.length) (hlen:fs.length≤1048576) (hBs:B≤w.heap.size):
 Calls Tryz.prog 206 #[v,.int .i64 i,.slice (some ⟨vb,0,none⟩) 1 1] w fun e w'=>
  ∃v',e=.returned v'∧w'.ownsRow B 116 3 v' (fs.length+1) (flat (iI fs i f))∧oC (fun k=>v.ownBlock=some k) w w'∧(v'.ownBlock=v.ownBlock∨v'.ownBlock=some w.heap.size):=by
 by_cases he:i=fs.length
 ·subst he;exact ZL B vb v fs f w hown hv hlen hBs
 ·rcases hown.2 with ⟨rfl,h0⟩ | ⟨g,cap,cur,rfl,hB,hg,hnc,hcm,_⟩
  ·omega
  ·by_cases hr:fs.length+1≤cap
   ·refine (OV B g cap i vb fs f w hown hv (fun e=>hvb (by rw [e];rfl)) (by omega) hr hlen).mono ?_;rintro e w' ⟨rfl,h1,h2⟩;exact ⟨_,rfl,h1,h2.mono (fun k e=>by subst e;rfl),Or.inl rfl⟩
   ·refine (UN B g cap i vb fs f w hown hv (by omega) (by omega) hlen hBs).mono ?_;rintro e w' ⟨cap',rfl,h1,h2⟩;exact ⟨_,rfl,h1,oC.of h2,Or.inr rfl⟩
theorem GL {w:World}{B:Nat}{e:TypeId}{size:Nat}{v:Value}{n:Nat}{xs:List Value} (h:w.ownsRow B e size v n xs){g:Nat} (hg:g<B):some g≠v.ownBlock:=fun e1=>by
 rcases h.2 with ⟨rfl,_⟩ | ⟨g',cap,cur,rfl,hB,_⟩
 ·simp [Value.ownBlock] at e1
 ·simp [Value.ownBlock] at e1;omega
theorem bI {W w w':World}{B:Nat}{e:TypeId}{size:Nat}{v:Value}{n:Nat}{xs:List Value} (h:w.ownsRow B e size v n xs) (hb:Below B W w) (hBw:B≤w.heap.size) (hg:w.grownBy w' v.ownBlock):Below B W w':=
 hb.trans ((oC.grown (S:=fun k=>v.ownBlock=some k) hg (fun _ h=>h)).below (fun g hg=>by
  rcases h.2 with ⟨rfl,_⟩ | ⟨g',cap,cur,rfl,hB,_⟩
  ·simp [Value.ownBlock] at hg
  ·simp [Value.ownBlock] at hg;omega) hBw)
theorem qS (W:World) (x:Obj) (cs:Array Value) (t:TypeId):∀j u,cs.toList[j]?=some u→((W.alloc x).alloc (.cells cs t)).cell? ((⟨W.heap.size+1,0,none⟩:Addr).add j)=some u:=
 World.news_of_block (fr:=(0,0)) (by have h:=heap_alloc_new (W.alloc x) (.cells cs t);simpa using h)
theorem RC (l:List eA) (f:eA) (t:ByteArray):tB (l++[f]) t=tB l t++(if (f.name.toList==t.toList)=true then [] else [f]):=by
 unfold tB;rw [List.filter_append];by_cases h:(f.name.toList==t.toList)=true
 ·rw [if_pos h];simp only [List.filter_cons,h];rfl
 ·rw [if_neg h];have h':(f.name.toList==t.toList)=false:=by simpa using h
  simp only [List.filter_cons,h'];rfl
theorem kO (l:List eA) (t:ByteArray):(tB l t).length≤l.length:=List.length_filter_le _ _
theorem fU (a:Option Addr) (cap:Nat) (fs:List eA) (t:ByteArray) (w:World) (hf:kA w a fs) (hlen:fs.length≤1048576):
 Calls Tryz.prog 142 #[.slice a fs.length cap,.string t] w fun e w'=>∃v,e=.returned v∧w'.ownsRow w.heap.size 116 3 v (tB fs t).length (flat (tB fs t))∧Below w.heap.size w w':=by
 have HF:Hid (kA w a fs):=hf;clear hf;obtain ⟨ti,hti,hz0,hz1,hz2⟩:=cH;have HI:Hid _:=hti;clear hti;go_enter Tryz.func142,Tryz.ntmps142;go_wp2;go_loopw [5,7,11] (fun o _ i wr=>∃(j:Nat) (av:Option Addr) (n cv:Nat),j≤fs.length∧i=.int .i64 j∧o=.slice av n cv∧n=(tB (fs.take j) t).length∧wr.ownsRow w.heap.size 116 3 (.slice av n cv) n (flat (tB (fs.take j) t))∧Below w.heap.size w wr) (fun _ _ i _=>fs.length - (intOf i).toNat)
 case atStart=>exact ⟨0,_,0,0,Nat.zero_le _,rfl,rfl,rfl,⟨rfl,Or.inr ⟨w.heap.size,0,#[],rfl,Nat.le_refl _,heap_alloc_new _ _,Nat.le_refl _,Nat.zero_le _,rfl,rfl⟩⟩,bA _ _⟩
 case round=>
  obtain ⟨j,av,n,cv,hj,rfl,rfl,hn,hrow,hbel⟩:=hrel;have H1:Hid (wr.ownsRow w.heap.size 116 3 (.slice av n cv) n (flat (tB (fs.take j) t))):=hrow;have HN:Hid _:=hn;have hn2:n≤1048576:=by have:=kO (fs.take j) t;rw [List.length_take] at this;omega
  clear hrow hn;by_cases hlt:j<fs.length
  ·obtain ⟨b,o,rfl,hb,c0,c1,c2⟩:=(HF.out.later hbel).at hlt;have hnb:¬b=wr.heap.size:=by omega
   have HT:Hid (tB (fs.take (j+1)) t=tB (fs.take j) t++(if (fs[j].name.toList==t.toList)=true then [] else [fs[j]])):=by
    show _=_;rw [List.take_succ_eq_append_getElem hlt,RC]
   by_cases he:(fs[j].name.toList==t.toList)=true
   ·have HT2:Hid (tB (fs.take (j+1)) t=tB (fs.take j) t):=by show _=_;rw [HT.out,if_pos he];simp
    go_wp2;exact ⟨⟨j+1,av,n,cv,by omega,by go_num,rfl,by rw [HT2.out];exact HN.out,by rw [HT2.out];exact yA H1.out (bA _ _),rA hbel (bA _ _)⟩,by simp [intOf];omega⟩
   ·have he':(fs[j].name.toList==t.toList)=false:=by simpa using he
    have HT2:Hid (tB (fs.take (j+1)) t=tB (fs.take j) t++[fs[j]]):=by show _=_;rw [HT.out,if_neg he]
    have HW:Hid (Below wr.heap.size wr ((wr.alloc (.cells #[.string fs[j].name,.string fs[j].data,.int .i64 fs[j].synced] 116)).alloc (.cells #[.string fs[j].name,.string fs[j].data,.int .i64 fs[j].synced] 116))):=rA (bA _ _) (bA _ _);clear he HT;go_wp2_with (at_builtin;refine wpList_append_lies _ rfl _ _ _ rfl w.heap.size 116 ti _ 3 40 Tryz.underlying37 HI.out hz0 hz1 hz2 rfl (by omega) (.slice av n cv) n (flat (tB (fs.take j) t)) rfl (by exact yA H1.out HW.out) ⟨wr.heap.size+1,0,none⟩ 1 1 [.string fs[j].name,.string fs[j].data,.int .i64 fs[j].synced] rfl rfl (by exact qS _ _ #[.string fs[j].name,.string fs[j].data,.int .i64 fs[j].synced] _) (by simp [Value.oneCell']) (by omega) (by simp [maxLen];omega) (by omega) (by have:=hbel.size;simp;omega) (wr.heap.size+1+1) (by simp) ?_;intro g5 cap5 w5 hown5 hgrow5 hat5 hlt5);refine ⟨⟨j+1,_,n+1,_,by omega,by go_num,rfl,by rw [HT2.out,List.length_append,←HN.out];rfl,?_,?_⟩,by simp [intOf];omega⟩
    ·rw [HT2.out,tE,yN];exact hown5
    ·exact bI (yA H1.out HW.out) (rA hbel HW.out) (by have:=hbel.size;simp;omega) hgrow5
  ·go_wp2;go_ret;have ej:j=fs.length:=by omega
   have h:=H1.out;have hn:=HN.out;rw [ej,List.take_length] at h hn;subst hn;exact ⟨_,rfl,h,hbel⟩
theorem vO:∀{l:List eA}{f:eA} (r:List eA),(l.any fun g=>Op.bytesLess f.name.toList g.name.toList)=true→jE (l++r) f=jE l f++r
 | [],_,_,h=>by simp at h
 | g :: l,f,r,h=>by
   show jE (g :: (l++r)) f=_;unfold jE;by_cases hl:Op.bytesLess f.name.toList g.name.toList=true
   ·rw [if_pos hl,if_pos hl];rfl
   ·rw [if_neg hl,if_neg hl,vO r (by simpa [hl] using h)];rfl
theorem mM:∀{l:List eA}{f:eA} (r:List eA),(l.any fun g=>Op.bytesLess f.name.toList g.name.toList)=false→jE (l++r) f=l++jE r f
 | [],_,_,_=>rfl
 | g :: l,f,r,h=>by
   simp only [List.any_cons,Bool.or_eq_false_iff] at h;show jE (g :: (l++r)) f=_;rw [jE,if_neg (by rw [h.1];simp),mM r h.2];rfl
def bF (es:List eA) (f:eA) (j:Nat):Bool:=(es.take j).any fun g=>Op.bytesLess f.name.toList g.name.toList
def aG (es:List eA) (f:eA) (j:Nat):List eA:=if bF es f j=true then jE (es.take j) f else es.take j
theorem nI {es:List eA}{f:eA}{j:Nat} (h:j<es.length):bF es f (j+1)=(bF es f j||Op.bytesLess f.name.toList es[j].name.toList):=by
 unfold bF;rw [List.take_succ_eq_append_getElem h,List.any_append];simp only [List.any_cons,List.any_nil,Bool.or_false]
theorem WB {es:List eA}{f:eA}{j:Nat} (h:j<es.length) (hp:bF es f j=true):aG es f (j+1)=aG es f j++[es[j]]:=by
 unfold aG;rw [if_pos hp,if_pos (by rw [nI h,hp];rfl),List.take_succ_eq_append_getElem h];exact vO _ hp
theorem aKi {es:List eA}{f:eA}{j:Nat} (h:j<es.length) (hp:bF es f j=false) (hl:Op.bytesLess f.name.toList es[j].name.toList=true):aG es f (j+1)=aG es f j++[f]++[es[j]]:=by
 have e1:bF es f (j+1)=true:=by rw [nI h,hl];simp
 have e2:aG es f (j+1)=jE (es.take (j+1)) f:=if_pos e1;have e3:aG es f j=es.take j:=if_neg (by rw [hp];simp);rw [e2,e3,List.take_succ_eq_append_getElem h,mM _ hp];simp [jE,hl]
theorem aKh {es:List eA}{f:eA}{j:Nat} (h:j<es.length) (hp:bF es f j=false) (hl:Op.bytesLess f.name.toList es[j].name.toList=false):aG es f (j+1)=aG es f j++[es[j]]:=by
 have e1:bF es f (j+1)=false:=by rw [nI h,hp,hl];rfl
 have e2:aG es f (j+1)=es.take (j+1):=if_neg (by rw [e1];simp);have e3:aG es f j=es.take j:=if_neg (by rw [hp];simp);rw [e2,e3,List.take_succ_eq_append_getElem h]
theorem aKg {es:List eA}{f:eA} (hp:bF es f es.length=false):jE es f=aG es f es.length++[f]:=by
 unfold aG;rw [if_neg (by rw [hp];simp)];unfold bF at hp;rw [List.take_length] at hp ⊢;have:=mM (f:=f) [] hp;rw [List.append_nil] at this;rw [this];rfl
theorem aKf {es:List eA}{f:eA} (hp:bF es f es.length=true):jE es f=aG es f es.length:=by
 unfold aG;rw [if_pos hp,List.take_length]
theorem WA (es:List eA) (f:eA) (j:Nat):(aG es f j).length≤j+1:=by
 have hpl:∀(l:List eA),(jE l f).length=l.length+1:=fun l=>by
  induction l with
  | nil=>rfl
  | cons g r ih=>unfold jE;split<;>simp [ih]
 unfold aG;split
 ·rw [hpl,List.length_take];omega
 ·rw [List.length_take];omega
theorem dN {w w' w2:World}{D:Nat}{cur:Array Value}{t:TypeId}{row:Option Nat} (h:lA w D cur t) (hb:Below w.heap.size w w') (hg:w'.grownBy w2 row) (hne:some D≠row):lA w2 D cur t:=
 (hg.block D (aA (h.later hb)) hne).trans (h.later hb)
theorem aGw {w:World}{B:Nat}{e:TypeId}{size:Nat}{v:Value}{n:Nat}{xs:List Value} (h:w.ownsRow B e size v n xs):∀g,v.ownBlock=some g→B≤g:=by
 intro g hg;rcases h.2 with ⟨rfl,_⟩ | ⟨g',cap,cur,rfl,hB,_⟩
 ·simp [Value.ownBlock] at hg
 ·simp [Value.ownBlock] at hg;subst hg;exact hB
theorem wL {w w':World}{v:Value}{a:Option Addr}{es:List eA} (hg:w.grownBy w' v.ownBlock) (hf:kA w a es) (ha:∀b o,a=some ⟨b,o,none⟩→some b≠v.ownBlock):kA w' a es:=by
 rcases hf with hf | ⟨b,o,rfl,hlt,hf⟩
 ·exact Or.inl hf
 ·have hb:=hg.block b hlt (ha b o rfl);have hk:∀j,w'.cell? ⟨b,j,none⟩=w.cell? ⟨b,j,none⟩:=fun j=>World.cell?_of_block hb;exact Or.inr ⟨b,o,rfl,Nat.lt_of_lt_of_le hlt hg.size,fun i hi=>by simp only [hk];exact hf i hi⟩
theorem ZP (a:Option Addr) (cap:Nat) (fs:List eA) (f:eA) (w:World) (hf:kA w a fs) (hlen:fs.length≤1048576):
 Calls Tryz.prog 141 #[.slice a fs.length cap,.agg #[.string f.name,.string f.data,.int .i64 f.synced]] w fun e w'=>∃v,e=.returned v∧w'.ownsRow w.heap.size 116 3 v (qF fs f).length (flat (qF fs f))∧Below w.heap.size w w':=by
 have HF:Hid (kA w a fs):=hf;clear hf;obtain ⟨ti,hti,hz0,hz1,hz2⟩:=cH;have HI:Hid _:=hti;clear hti;go_enter Tryz.func141,Tryz.ntmps141;go_wp2_with fail;refine (fU a cap fs f.name _ ((HF.out.later (bA _ _)).later (bA _ _)) hlen).mono ?_;rintro e w1 ⟨v1,rfl,hrow1,hb1⟩;obtain ⟨a1,cap1,rfl,hown1⟩:=kF hrow1;have hes:=kO fs f.name;have HWE:Hid (qF fs f=jE (tB fs f.name) f):=rfl;generalize tB fs f.name=es at *;have HB1:Hid _:=rA (rA (bA _ _) (bA _ _)) hb1;have HFB:Hid (lA w1 w.heap.size #[.string f.name,.string f.data,.int .i64 f.synced] 116):=(lA.later (lA.later (g:=w.heap.size) (heap_alloc_new w (.cells #[.string f.name,.string f.data,.int .i64 f.synced] 116)) (Below.refl _ _)) (bA _ _)).later hb1;have HO1:Hid (w1.ownsRow (w.heap.size+1) 116 3 (.slice (some ⟨w.heap.size+1,0,none⟩) 0 0) 0 []):=by
  have h:=lA.later (w:=(w.alloc (.cells #[.string f.name,.string f.data,.int .i64 f.synced] 116)).alloc (.cells #[] 116)) (g:=(w.alloc (.cells #[.string f.name,.string f.data,.int .i64 f.synced] 116)).heap.size) (heap_alloc_new _ _) hb1;refine ⟨rfl,Or.inr ⟨w.heap.size+1,0,#[],rfl,Nat.le_refl _,?_,Nat.le_refl _,Nat.zero_le _,rfl,rfl⟩⟩;show lA w1 (w.heap.size+1) #[] 116;simpa using h
 have HAP:Hid (∀b o,a1=some ⟨b,o,none⟩→w.heap.size+1+1≤b∧b<w1.heap.size):=fun b o e=>by
  have h1:=(aGw hrow1) b (by rw [e];rfl);have h2:=(eK hrow1) b (by rw [e];rfl);simp at h1;exact ⟨h1,h2⟩
 have HFI:Hid (kA w1 a1 es):=hown1.files;clear hrow1 hown1 hb1;go_wp2;go_loopw [5,6,8,15] (fun o p _ i wr=>∃(j:Nat) (av:Option Addr) (n cv:Nat),j≤es.length∧i=.int .i64 j∧o=.slice av n cv∧p=.bool (bF es f j)∧n=(aG es f j).length∧wr.ownsRow (w.heap.size+1) 116 3 (.slice av n cv) n (flat (aG es f j))∧
  (∀b o,a1=some ⟨b,o,none⟩→some b≠(Value.slice av n cv).ownBlock)∧w1.heap.size≤wr.heap.size∧kA wr a1 es∧lA wr w.heap.size #[.string f.name,.string f.data,.int .i64 f.synced] 116∧Below w.heap.size w wr) (fun _ _ _ i _=>es.length - (intOf i).toNat)
 case atStart=>exact ⟨0,_,0,0,Nat.zero_le _,rfl,rfl,rfl,rfl,HO1.out,fun b o e h=>by have:=HAP.out b o e;simp [Value.ownBlock] at h;omega,Nat.le_refl _,HFI.out,HFB.out,HB1.out⟩
 case round=>
  obtain ⟨j,av,n,cv,hj,rfl,rfl,rfl,hn,hrow,hap,hsz,hfi,hfb,hbel⟩:=hrel;have H1:Hid (wr.ownsRow (w.heap.size+1) 116 3 (.slice av n cv) n (flat (aG es f j))):=hrow;have HN:Hid _:=hn;have hn2:n≤1048577:=by have:=WA es f j;omega
  have HA2:Hid _:=hap;have HF2:Hid (kA wr a1 es):=hfi;have HB2:Hid (lA wr w.heap.size #[.string f.name,.string f.data,.int .i64 f.synced] 116):=hfb;have hwl:=aA hfb;have x0:=hfb.cell 0;have x1:=hfb.cell 1;have x2:=hfb.cell 2;simp only [List.getElem?_toArray,List.getElem?_cons_zero,List.getElem?_cons_succ] at x0 x1 x2;have hnw:¬w.heap.size=wr.heap.size:=by omega
  have hBw:w.heap.size+1≤wr.heap.size:=by omega
  clear hrow hn hap hfi hfb HO1 HFI HFB HB1;by_cases hlt:j<es.length
  ·obtain ⟨b,o,e1,hb,c0,c1,c2⟩:=HF2.out.at hlt;have hnb:¬b=wr.heap.size:=by omega
   have HAb:Hid (some b≠(Value.slice av n cv).ownBlock∧b<w1.heap.size):=⟨HA2.out b o e1,(HAP.out b o e1).2⟩
   subst e1;have HW:Hid (∀x,Below wr.heap.size wr ((wr.alloc (.cells #[.string es[j].name,.string es[j].data,.int .i64 es[j].synced] 116)).alloc x)):=fun x=>rA (bA _ _) (bA _ _);by_cases hp:bF es f j=true
   ·have HT:Hid _:=WB hlt hp;have HP:Hid (bF es f (j+1)=true):=by show _=_;rw [nI hlt,hp];rfl
    go_wp2_with (at_builtin;refine wpList_append_lies _ rfl _ _ _ rfl (w.heap.size+1) 116 ti _ 3 40 Tryz.underlying37 HI.out hz0 hz1 hz2 rfl (by omega) (.slice av n cv) n (flat (aG es f j)) rfl (by exact yA H1.out (HW.out _)) ⟨wr.heap.size+1,0,none⟩ 1 1 [.string es[j].name,.string es[j].data,.int .i64 es[j].synced] rfl rfl (by exact qS _ _ #[.string es[j].name,.string es[j].data,.int .i64 es[j].synced] _) (by simp [Value.oneCell']) (by omega) (by simp [maxLen];omega) (by omega) (by simp;omega) (wr.heap.size+1+1) (by simp) ?_;intro g5 cap5 w5 hown5 hgrow5 hat5 hlt5);refine ⟨⟨j+1,_,n+1,_,by omega,by go_num,rfl,by rw [HP.out],by rw [HT.out,List.length_append,←HN.out];rfl,?_,?_,?_,?_,?_,?_⟩,by simp [intOf];omega⟩
    ·rw [HT.out,tE,yN];exact hown5
    ·intro b' o' e h;simp only [Option.some.injEq,Addr.mk.injEq,and_true] at e;obtain ⟨rfl,rfl⟩:=e;simp only [Value.ownBlock,Option.some.injEq] at h;rcases hat5 with h5 | h5
     ·exact HAb.out.1 (by rw [h5,h])
     ·omega
    ·have:=hgrow5.size;simp at this;omega
    ·exact wL hgrow5 (HF2.out.later (HW.out _)) HA2.out
    ·exact dN HB2.out (HW.out _) hgrow5 (GL H1.out (by omega))
    ·exact (bI (yA H1.out (HW.out _)) ((Below.refl _ _).mono (Nat.le_refl _)) (by simp;omega) hgrow5 |>.mono (by omega)) |> (rA hbel (HW.out _)).trans
   ·have hp':bF es f j=false:=by simpa using hp
    by_cases hl:Op.bytesLess f.name.toList es[j].name.toList=true
    ·have hg1:=zK hl;have hg2:(es[j].name.toList==f.name.toList)=false:=by
      rw [beq_eq_false_iff_ne];intro e;rw [e,gE] at hl;exact absurd hl (by simp)
     have HT:Hid _:=aKi hlt hp' hl;have HP:Hid (bF es f (j+1)=true):=by show _=_;rw [nI hlt,hl];simp
     have HGB:Hid (lA (wr.alloc (.cells #[.string es[j].name,.string es[j].data,.int .i64 es[j].synced] 116)) wr.heap.size #[.string es[j].name,.string es[j].data,.int .i64 es[j].synced] 116):=heap_alloc_new _ _;have HK0:Hid (∀x w',((wr.alloc (.cells #[.string es[j].name,.string es[j].data,.int .i64 es[j].synced] 116)).alloc x).grownBy w' (Value.slice av n cv).ownBlock→w'.cell? ⟨wr.heap.size,0,none⟩=some (.string es[j].name)∧w'.cell? ⟨wr.heap.size,1,none⟩=some (.string es[j].data)∧w'.cell? ⟨wr.heap.size,2,none⟩=some (.int .i64 es[j].synced)):=fun x w' hg=>by
      have h1:=dN HGB.out (bA _ _) hg (fun e=>absurd (eK H1.out _ e.symm) (by omega));exact ⟨by rw [h1.cell];rfl,by rw [h1.cell];rfl,by rw [h1.cell];rfl⟩
     clear hp;go_wp2_with (first
      | (at_builtin;refine wpList_append_lies _ rfl _ _ _ rfl (w.heap.size+1) 116 ti _ 3 40 Tryz.underlying37 HI.out hz0 hz1 hz2 rfl (by omega) (.slice av n cv) n (flat (aG es f j)) rfl (by exact yA H1.out (HW.out _)) ⟨wr.heap.size+1,0,none⟩ 1 1 [.string f.name,.string f.data,.int .i64 f.synced] rfl rfl (by exact qS _ _ #[.string f.name,.string f.data,.int .i64 f.synced] _) (by simp [Value.oneCell']) (by omega) (by simp [maxLen];omega) (by omega) (by simp;omega) (wr.heap.size+1+1) (by simp) ?_;intro g5 cap5 w5 hown5 hgrow5 hat5 hlt5;obtain ⟨y0,y1,y2⟩:=HK0.out _ _ hgrow5;have hg5:=hgrow5.size)
      | (at_builtin;refine wpList_append_lies _ rfl _ _ _ rfl (w.heap.size+1) 116 ti _ 3 40 Tryz.underlying37 HI.out hz0 hz1 hz2 rfl (by omega) (.slice (some ⟨g5,0,none⟩) (n+1) cap5) (n+1) (flat (aG es f j)++[.string f.name,.string f.data,.int .i64 f.synced]) rfl (by exact yA hown5 (bA _ _)) ⟨w5.heap.size,0,none⟩ 1 1 [.string es[j].name,.string es[j].data,.int .i64 es[j].synced] rfl rfl (by exact World.news_of_block (fr:=(0,0)) (heap_alloc_new _ _)) (by simp [Value.oneCell']) (by omega) (by simp [maxLen];omega) (by omega) (by simp at hg5 ⊢;omega) (w5.heap.size+1) (by simp) ?_;intro g6 cap6 w6 hown6 hgrow6 hat6 hlt6))
     have hg5':wr.heap.size+1+1≤w5.heap.size:=by have:=hgrow5.size;simp at this;omega
     have hap5:∀b' o',some (⟨b,o,none⟩:Addr)=some ⟨b',o',none⟩→some b'≠(Value.slice (some ⟨g5,0,none⟩) (n+1) cap5).ownBlock:=by
      intro b' o' e h;simp only [Option.some.injEq,Addr.mk.injEq,and_true] at e;obtain ⟨rfl,rfl⟩:=e;simp only [Value.ownBlock,Option.some.injEq] at h;rcases hat5 with h5 | h5
      ·exact HAb.out.1 (by rw [h5,h])
      ·omega
     have hf5:=wL hgrow5 (HF2.out.later (HW.out _)) HA2.out;have hb5:=dN HB2.out (HW.out _) hgrow5 (GL H1.out (by omega));have hl5:=(rA hbel (HW.out _)).trans ((bI (yA H1.out (HW.out _)) (Below.refl _ _) (by simp;omega) hgrow5).mono (by omega));refine ⟨⟨j+1,_,n+1+1,_,by omega,by go_num,rfl,by rw [HP.out],by rw [HT.out,List.length_append,List.length_append,←HN.out];rfl,?_,?_,?_,?_,?_,?_⟩,by simp [intOf];omega⟩
     ·rw [HT.out,tE,tE,yN,yN];exact hown6
     ·intro b' o' e h;have hx:=hap5 b' o' e;simp only [Option.some.injEq,Addr.mk.injEq,and_true] at e;obtain ⟨rfl,rfl⟩:=e;simp only [Value.ownBlock,Option.some.injEq] at h;rcases hat6 with h6 | h6
      ·exact hx (by rw [h6,h])
      ·omega
     ·have:=hgrow6.size;simp at this;omega
     ·exact wL hgrow6 (hf5.later (bA _ _)) hap5
     ·exact dN hb5 (bA _ _) hgrow6 (GL hown5 (by omega))
     ·exact (rA hl5 (bA _ _)).trans ((bI (yA hown5 (bA _ _)) (Below.refl _ _) (by simp;omega) hgrow6).mono (by omega))
    ·have hl':Op.bytesLess f.name.toList es[j].name.toList=false:=by simpa using hl
     have HT:Hid _:=aKh hlt hp' hl';have HP:Hid (bF es f (j+1)=false):=by show _=_;rw [nI hlt,hp',hl'];rfl
     clear hp hl;have hgt:Op.bytesLess es[j].name.toList f.name.toList=true∨(es[j].name.toList==f.name.toList)=true:=by
      by_cases e:es[j].name.toList=f.name.toList
      ·right;simpa using e
      ·left;exact cI _ _ hl' (Ne.symm e)
     rcases hgt with hg | hg
     ·go_wp2_with (at_builtin;refine wpList_append_lies _ rfl _ _ _ rfl (w.heap.size+1) 116 ti _ 3 40 Tryz.underlying37 HI.out hz0 hz1 hz2 rfl (by omega) (.slice av n cv) n (flat (aG es f j)) rfl (by exact yA H1.out (HW.out _)) ⟨wr.heap.size+1,0,none⟩ 1 1 [.string es[j].name,.string es[j].data,.int .i64 es[j].synced] rfl rfl (by exact qS _ _ #[.string es[j].name,.string es[j].data,.int .i64 es[j].synced] _) (by simp [Value.oneCell']) (by omega) (by simp [maxLen];omega) (by omega) (by simp;omega) (wr.heap.size+1+1) (by simp) ?_;intro g5 cap5 w5 hown5 hgrow5 hat5 hlt5);refine ⟨⟨j+1,_,n+1,_,by omega,by go_num,rfl,by rw [HP.out],by rw [HT.out,List.length_append,←HN.out];rfl,?_,?_,?_,?_,?_,?_⟩,by simp [intOf];omega⟩
      ·rw [HT.out,tE,yN];exact hown5
      ·intro b' o' e h;simp only [Option.some.injEq,Addr.mk.injEq,and_true] at e;obtain ⟨rfl,rfl⟩:=e;simp only [Value.ownBlock,Option.some.injEq] at h;rcases hat5 with h5 | h5
       ·exact HAb.out.1 (by rw [h5,h])
       ·omega
      ·have:=hgrow5.size;simp at this;omega
      ·exact wL hgrow5 (HF2.out.later (HW.out _)) HA2.out
      ·exact dN HB2.out (HW.out _) hgrow5 (GL H1.out (by omega))
      ·exact (bI (yA H1.out (HW.out _)) ((Below.refl _ _).mono (Nat.le_refl _)) (by simp;omega) hgrow5 |>.mono (by omega)) |> (rA hbel (HW.out _)).trans
     ·go_wp2_with (at_builtin;refine wpList_append_lies _ rfl _ _ _ rfl (w.heap.size+1) 116 ti _ 3 40 Tryz.underlying37 HI.out hz0 hz1 hz2 rfl (by omega) (.slice av n cv) n (flat (aG es f j)) rfl (by exact yA H1.out (HW.out _)) ⟨wr.heap.size+1,0,none⟩ 1 1 [.string es[j].name,.string es[j].data,.int .i64 es[j].synced] rfl rfl (by exact qS _ _ #[.string es[j].name,.string es[j].data,.int .i64 es[j].synced] _) (by simp [Value.oneCell']) (by omega) (by simp [maxLen];omega) (by omega) (by simp;omega) (wr.heap.size+1+1) (by simp) ?_;intro g5 cap5 w5 hown5 hgrow5 hat5 hlt5);refine ⟨⟨j+1,_,n+1,_,by omega,by go_num,rfl,by rw [HP.out],by rw [HT.out,List.length_append,←HN.out];rfl,?_,?_,?_,?_,?_,?_⟩,by simp [intOf];omega⟩
      ·rw [HT.out,tE,yN];exact hown5
      ·intro b' o' e h;simp only [Option.some.injEq,Addr.mk.injEq,and_true] at e;obtain ⟨rfl,rfl⟩:=e;simp only [Value.ownBlock,Option.some.injEq] at h;rcases hat5 with h5 | h5
       ·exact HAb.out.1 (by rw [h5,h])
       ·omega
      ·have:=hgrow5.size;simp at this;omega
      ·exact wL hgrow5 (HF2.out.later (HW.out _)) HA2.out
      ·exact dN HB2.out (HW.out _) hgrow5 (GL H1.out (by omega))
      ·exact (bI (yA H1.out (HW.out _)) ((Below.refl _ _).mono (Nat.le_refl _)) (by simp;omega) hgrow5 |>.mono (by omega)) |> (rA hbel (HW.out _)).trans
  ·have HEJ:Hid (j=es.length):=by show _=_;omega
   by_cases hp:bF es f j=true
   ·have HE:Hid (qF fs f=aG es f j):=by show _=_;rw [HWE.out,HEJ.out];exact aKf (by rw [←HEJ.out];exact hp)
    go_wp2;go_ret;rw [HE.out];have h:=H1.out;have hn:=HN.out;subst hn;exact ⟨_,rfl,GK (B':=w.heap.size) h (by omega),hbel⟩
   ·have hp':bF es f j=false:=by simpa using hp
    have HE:Hid (qF fs f=aG es f j++[f]):=by show _=_;rw [HWE.out,HEJ.out];exact aKg (by rw [←HEJ.out];exact hp')
    clear hp;go_wp2_with (at_builtin;refine wpList_append_lies _ rfl _ _ _ rfl (w.heap.size+1) 116 ti _ 3 40 Tryz.underlying37 HI.out hz0 hz1 hz2 rfl (by omega) (.slice av n cv) n (flat (aG es f j)) rfl (by exact yA H1.out (bA _ _)) ⟨wr.heap.size,0,none⟩ 1 1 [.string f.name,.string f.data,.int .i64 f.synced] rfl rfl (by exact World.news_of_block (fr:=(0,0)) (heap_alloc_new _ _)) (by simp [Value.oneCell']) (by omega) (by simp [maxLen];omega) (by omega) (by simp;omega) (wr.heap.size+1) (by simp) ?_;intro g5 cap5 w5 hown5 hgrow5 hat5 hlt5);go_ret;rw [HE.out];have hn:(aG es f j++[f]).length=n+1:=by rw [List.length_append,←HN.out];rfl
    rw [hn,tE,yN];exact ⟨_,rfl,GK (B':=w.heap.size) hown5 (by omega),(rA hbel (bA _ _)).trans ((bI (yA H1.out (bA _ _)) (Below.refl _ _) (by simp;omega) hgrow5).mono (by omega))⟩
end Go.Proofs.YtcneojllbkacoaaGreatDoor
