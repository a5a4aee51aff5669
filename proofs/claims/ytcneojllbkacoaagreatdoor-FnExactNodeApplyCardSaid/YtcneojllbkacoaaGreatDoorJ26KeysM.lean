import Derived.Test.YtcneojllbkacoaaGreatDoorJ22SDecK
import Derived.Test.YtcneojllbkacoaaGreatDoorJ23IdxA
import Derived.Test.YtcneojllbkacoaaGreatDoorJ03Iter
set_option maxRecDepth 100000
set_option maxHeartbeats 2000000
namespace Go.Proofs.YtcneojllbkacoaaGreatDoor
open Go.RowKit
theorem EF (key:ByteArray):(zD key).1.length≤16:=by
 cases hd:(zD key).2 with
 | true=>exact DU (NZ hd).1
 | false=>rw [(CY hd).1];simp
theorem mS (key:ByteArray) (w:World) (hs:key.size≤1000000000) (hT:wF w):
 Calls Tryz.prog 188 #[.string key] w fun e w'=>e=.returned (.string (uH (zD key).1))∧Below w.heap.size w w':=by
 have hl:=EF key;have HI:Hid (Calls Tryz.prog 220 #[.string key] w fun e w'=>∃a cap,e=.returned (.tuple #[.slice a (zD key).1.length cap,.bool (zD key).2])∧pD w' w.heap.size a (zD key).1∧Below w.heap.size w w'):=UA key w hs hT;clear hT;generalize (zD key).1=L at *;generalize (zD key).2=p at *;generalize hM:uH L=M;have EM:Hid _:=hM;clear hM;go_enter Tryz.func188,Tryz.ntmps188;go_wp2_with fail;refine HI.out.mono ?_;rintro e w1 ⟨a,cap,rfl,hl1,hb1⟩;have HM:Hid (Calls Tryz.prog 221 #[.slice a L.length cap] w1 fun e w'=>e=.returned (.string M)∧Below w1.heap.size w1 w'):=by
  have:=mX a cap L w1 hl1.labs (by omega);rw [EM.out] at this;exact this
 have B1:Hid _:=hb1;clear hl1 hb1 HI;go_wp2_with fail;refine HM.out.mono ?_;rintro e w2 ⟨rfl,hb2⟩;have B2:Hid _:=rA B1.out hb2;clear hb2;go_wp2;go_ret;exact ⟨rfl,B2.out⟩
theorem xS (key:ByteArray) (w:World) (hs:key.size≤1000000000):
 Calls Tryz.prog 101 #[.string key] w fun e w'=>e=.returned (.string (uH (zD key).1))∧Below w.heap.size w w':=by
 have hl:=EF key;have HI:Hid (Calls Tryz.prog 138 #[.string key] w fun e w'=>∃a cap,e=.returned (.tuple #[.slice a (zD key).1.length cap,.bool (zD key).2])∧pD w' w.heap.size a (zD key).1∧Below w.heap.size w w'):=BP key w hs;generalize (zD key).1=ls at *;generalize (zD key).2=p at *;go_enter Tryz.func101,Tryz.ntmps101;go_wp2_with fail;refine HI.out.mono ?_;rintro e w1 ⟨a,cap,rfl,hl1,hb1⟩;have HF:Hid (lD w1 a ls):=hl1.labs;have B1:Hid _:=hb1;clear hl1 hb1 HI;go_wp2;go_loopw [6,14] (fun _ i wr=>∃k:Nat,k≤ls.length∧i=.int .i64 k∧Hid (uH ls=uH (ls.drop k))∧Below w1.heap.size w1 wr) (fun _ i _=>ls.length - (intOf i).toNat)
 case atStart=>exact ⟨0,Nat.zero_le _,rfl,rfl,Below.refl _ _⟩
 case round=>
  obtain ⟨k,hk,rfl,HK,hbel⟩:=hrel;by_cases hlt:k<ls.length
  ·obtain ⟨b,o,rfl,hb,c0,c1⟩:=(HF.out.later hbel).at hlt;have HS:=LS ls k hlt;have HM:Hid (oK ls[k]=(ls[k].name.toList==[95,95,110,97,109,101,95,95])):=by show _=_;rw [oK,GA]
   generalize ls[k].name=nm at *;by_cases hm:oK ls[k]=true
   ·have hmb:(nm.toList==[95,95,110,97,109,101,95,95])=true:=by rw [←HM.out];exact hm
    have E:Hid (uH ls=ls[k].value):=by show _=_;rw [HK.out,HS,if_pos hm]
    clear HS hm;generalize ls[k].value=va at *;go_wp2;go_ret;exact ⟨by rw [E.out];rfl,rA B1.out (rA hbel (bA _ _))⟩
   ·have hmb:(nm.toList==[95,95,110,97,109,101,95,95])=false:=by rw [←HM.out];simpa using hm
    have E:Hid (uH ls=uH (ls.drop (k+1))):=by show _=_;rw [HK.out,HS,if_neg hm]
    clear HS hm;generalize ls[k].value=va at *;go_wp2;exact ⟨⟨k+1,by omega,by go_num,E.out,rA hbel (bA _ _)⟩,by simp [intOf];omega⟩
  ·have E:Hid (uH ls=ByteArray.empty):=by
    show _=_;rw [HK.out,List.drop_of_length_le (by omega)];rfl
   go_wp2;go_ret;exact ⟨by rw [E.out];rfl,rA B1.out hbel⟩
theorem aOy (c:UInt8):okM [45] c=okT c:=by
 have e:decide (0≤Lib.indexByte [45] c)=(c==45):=by
  by_cases h:c=45
  ·subst h;rfl
  ·have h1:((45:UInt8)==c)=false:=by simpa using fun e=>h e.symm
   have h2:(c==45)=false:=by simpa using h
   simp [Lib.indexByte,h1,h2]
 rw [okM,okT,e]
theorem XM (s:ByteArray):dO s 32 ⟨#[45]⟩=dC s:=by
 have e:=funext aOy;rw [dO,dC,e];congr 2;rw [Bool.eq_iff_iff];simp;omega
theorem xK (s:ByteArray) (w:World) (hs:s.size≤maxLen):Calls Tryz.prog 145 #[.string s] w fun e w'=>e=.returned (.bool (dC s))∧w'=w:=by
 have H:Hid _:=fun W=>XM s ▸ AX s 32 ⟨#[45]⟩ W hs;generalize dC s=R at *;go_enter Tryz.func145,Tryz.ntmps145;go_wp2_with fail;refine (H.out _).mono ?_;rintro e w' ⟨rfl,hw⟩;replace hw:=hw.symm;subst hw;go_wp2;go_ret;exact ⟨rfl,rfl⟩
theorem aMt (c:UInt8):okT c=decide ((97≤(c.toNat:Int)∧(c.toNat:Int)≤122)∨(48≤(c.toNat:Int)∧(c.toNat:Int)≤57)∨(c.toNat:Int)=45):=by
 have e45:(c==45)=decide (c.toNat=45):=by rw [Bool.eq_iff_iff];simp [←UInt8.toNat_inj]
 rw [Bool.eq_iff_iff];simp [okT,e45,UInt8.le_iff_toNat_le];omega
theorem jI (s:ByteArray) (w:World) (hs:s.size≤maxLen):
 Calls Tryz.prog 93 #[.string s] w fun e w'=>e=.returned (.bool (dC s))∧w'=w:=by
 unfold maxLen at hs;by_cases h1:1≤s.size∧s.size≤32
 ·have hB:mA (s.size:Int) 1 32=true:=by unfold mA;simp;omega
  have HN:Hid (dC s=s.data.toList.all okT):=by show _=_;simp [dC,h1.1,h1.2]
  have hl:=h1.1;have hu:=h1.2;clear h1;go_enter Tryz.func93,Tryz.ntmps93;go_wp2_with (go_at_call 22;refine (sC _ _ _ _).mono ?_;rintro e w' ⟨rfl,rfl⟩);go_loop [3,4] (fun i _=>∃k:Nat,k≤s.size∧i=.int .i64 k∧(s.data.toList.take k).all okT=true) (fun i _=>s.size - (intOf i).toNat)
  case atStart=>exact ⟨0,Nat.zero_le _,rfl,by simp⟩
  case round=>
   obtain ⟨k,hk,rfl,hok⟩:=hrel;have HOK:Hid _:=hok;clear hok hB;by_cases hlt:k<s.size
   ·have hsn:=yT (f:=okT) hlt;rw [HOK.out,Bool.true_and,aMt] at hsn;have HS:Hid _:=hsn;clear hsn;go_wp2;all_goals first
     | (go_ret
        refine ⟨jA ?_,rfl⟩
        rw [HN.out]
        refine (aBu (k:=k+1) ?_).symm
        rw [HS.out,decide_eq_false_iff_not]
        simp at *
        omega)
     | (refine ⟨⟨k+1,by omega,by go_num,?_⟩,by simp [intOf];omega⟩
        rw [HS.out,decide_eq_true_iff]
        simp at *
        omega)
   ·go_wp2;go_ret;exact ⟨jA (by rw [HN.out,←HOK.out,List.take_of_length_le (by simp;omega)]),rfl⟩
 ·have hB:mA (s.size:Int) 1 32=false:=by unfold mA;simp;omega
  have HN:Hid (dC s=false):=by show _=_;simp [dC];omega
  go_enter Tryz.func93,Tryz.ntmps93;go_wp2_with (go_at_call 22;refine (sC _ _ _ _).mono ?_;rintro e w' ⟨rfl,rfl⟩);go_ret;exact ⟨jA HN.out.symm,rfl⟩
theorem vP (s:ByteArray) (w:World) (hs:s.size≤1000000000) (hT:wF w):Calls Tryz.prog 187 #[.string s] w fun e w'=>e=.returned (.bool (oD s))∧Below w.heap.size w w':=by
 have H:Hid (Calls Tryz.prog 219 #[.string s] w fun e w'=>e=.returned (.int .i64 (rJ s:Nat))∧Below w.heap.size w w'):=AW s w hs hT;have HV:Hid (oD s=(!s.toList.isEmpty&&decide (rJ s=0))):=rfl;clear hT;generalize rJ s=v at *;by_cases h0:s.toList.isEmpty=true
 ·go_enter Tryz.func187,Tryz.ntmps187;go_wp2;go_ret;exact ⟨jA (by rw [HV.out,h0];rfl),Below.refl _ _⟩
 ·have h1:s.toList.isEmpty=false:=by simpa using h0
  clear h0;go_enter Tryz.func187,Tryz.ntmps187;go_wp2_with fail;refine H.out.mono ?_;rintro e w1 ⟨rfl,hb⟩;go_wp2;go_ret;exact ⟨jA (by rw [HV.out,h1];rw [Bool.eq_iff_iff];simp),hb⟩
theorem yK (s:ByteArray) (w:World) (hs:s.size≤1000000000):Calls Tryz.prog 95 #[.string s] w fun e w'=>e=.returned (.bool (oD s))∧Below w.heap.size w w':=by
 have H:Hid (Calls Tryz.prog 137 #[.string s] w fun e w'=>e=.returned (.int .i64 (rJ s:Nat))∧Below w.heap.size w w'):=BS s w hs;have HV:Hid (oD s=(!s.toList.isEmpty&&decide (rJ s=0))):=rfl;generalize rJ s=v at *;by_cases h0:s.toList.isEmpty=true
 ·go_enter Tryz.func95,Tryz.ntmps95;go_wp2;go_ret;exact ⟨jA (by rw [HV.out,h0];rfl),Below.refl _ _⟩
 ·have h1:s.toList.isEmpty=false:=by simpa using h0
  clear h0;go_enter Tryz.func95,Tryz.ntmps95;go_wp2_with fail;refine H.out.mono ?_;rintro e w1 ⟨rfl,hb⟩;go_wp2;go_ret;exact ⟨jA (by rw [HV.out,h1];rw [Bool.eq_iff_iff];simp),hb⟩
theorem aMm {key:ByteArray} (h:(zD key).2=false):(uH (zD key).1).toList.isEmpty=true:=by rw [(CY h).1];simp [uH]
theorem bZ (s:ByteArray) (w:World) (hs:s.size≤1000000000):Calls Tryz.prog 96 #[.string s] w fun e w'=>e=.returned (.bool (yF s))∧Below w.heap.size w w':=by
 have HI:Hid (Calls Tryz.prog 138 #[.string s] w fun e w'=>∃a cap,e=.returned (.tuple #[.slice a (zD s).1.length cap,.bool (zD s).2])∧pD w' w.heap.size a (zD s).1∧Below w.heap.size w w'):=BP s w hs;have HM:Hid _:=fun W=>xS s W hs;have HK:Hid (yF s=!(uH (zD s).1).toList.isEmpty):=rfl;cases hd:(zD s).2 with
 | false=>
   have hn:=aMm hd;rw [hd] at HI;generalize uH (zD s).1=mv at *;generalize (zD s).1=L at *;clear hd;go_enter Tryz.func96,Tryz.ntmps96;go_wp2_with fail;refine HI.out.mono ?_;rintro e w1 ⟨a,cap,rfl,_,hb1⟩;go_wp2;go_ret;exact ⟨jA (by rw [HK.out,hn];rfl),hb1⟩
 | true=>
   rw [hd] at HI;generalize uH (zD s).1=mv at *;generalize (zD s).1=L at *;clear hd;go_enter Tryz.func96,Tryz.ntmps96;go_wp2_with fail;refine HI.out.mono ?_;rintro e w1 ⟨a,cap,rfl,_,hb1⟩;have B1:Hid _:=hb1;clear hb1;go_wp2_with fail;refine (HM.out _).mono ?_;rintro e w2 ⟨rfl,hb2⟩;go_wp2;go_ret;exact ⟨jA (by rw [HK.out]),rA B1.out hb2⟩
theorem gV (t:cA) (a1 a2:Option Addr) (c1 c2:Nat) (w:World):Calls Tryz.prog 94 #[.agg #[.string t.name,.int .i64 t.limit,.slice a1 t.mets.length c1,.slice a2 t.sers.length c2]] w fun e w'=>e=.returned (.bool (dD t))∧Below w.heap.size w w':=by
 have E:Hid (dD t=(t.limit==-1&&t.mets.length==0&&t.sers.length==0)):=rfl;generalize t.mets.length=n1 at *;generalize t.sers.length=n2 at *;generalize t.limit=L at *;by_cases h1:L = -1
 ·by_cases h2:n1=0
  ·go_enter Tryz.func94,Tryz.ntmps94;go_wp2;go_ret;exact ⟨jA (by rw [E.out,h1,h2];rw [Bool.eq_iff_iff];simp),bA _ _⟩
  ·go_enter Tryz.func94,Tryz.ntmps94;go_wp2;go_ret;exact ⟨jA (by rw [E.out,h1];rw [Bool.eq_iff_iff];simp [h2]),bA _ _⟩
 ·go_enter Tryz.func94,Tryz.ntmps94;go_wp2;go_ret;exact ⟨jA (by rw [E.out];rw [Bool.eq_iff_iff];simp [h1]),bA _ _⟩
theorem tO (x:Int) (w:World):Calls Tryz.prog 146 #[.int .i64 x] w fun e w'=>e=.returned (.bool (mA x (-1) 1000000))∧w'=w:=by
 by_cases h:x = -1
 ·have E:Hid (mA x (-1) 1000000=true):=by show _=_;subst h;rfl
  go_enter Tryz.func146,Tryz.ntmps146;go_wp2_with (go_at_call 65;refine (yD _ _).mono ?_;rintro e w' ⟨rfl,rfl⟩);go_ret;exact ⟨jA E.out.symm,rfl⟩
 ·have E:Hid (mA x (-1) 1000000=mA x 0 1000000):=by
   show _=_;unfold mA;congr 1;rw [Bool.eq_iff_iff];simp;omega
  go_enter Tryz.func146,Tryz.ntmps146;go_wp2_with (go_at_call 65;refine (yD _ _).mono ?_;rintro e w' ⟨rfl,rfl⟩);go_ret;exact ⟨jA (by rw [E.out,show (x==-1)=false by simpa using h,Bool.false_or]),rfl⟩
end Go.Proofs.YtcneojllbkacoaaGreatDoor
namespace Go.Proofs.YtcneojllbkacoaaGreatDoor
open Go.RowKit Go.Maps Go.Sort
theorem VF {x y:ByteArray} (h:nG x y=true):x.data.toList≤y.data.toList:=by
 unfold nG at h;rw [bytesLess_eq,decide_eq_true_iff,ByteArray.toList_eq,ByteArray.toList_eq] at h;exact List.le_of_lt h
theorem oZ {α:Type}{key:α→ByteArray}{L:List α} (hr:oB key L){ss:List (List UInt8)} (hp:ss.Perm (L.map fun p=>(key p).data.toList)):
 (ss.mergeSort (fun x y=>decide (x≤y)))=L.map fun p=>(key p).data.toList:=by
 have h1:=(List.mergeSort_perm ss (fun x y=>decide (x≤y))).trans hp;have h2:(ss.mergeSort (fun x y=>decide (x≤y))).Pairwise (fun a b=>a≤b):=by
  have:=List.pairwise_mergeSort (le:=fun (x y:List UInt8)=>decide (x≤y)) (fun a b c h h'=>by simp only [decide_eq_true_iff] at *;exact List.le_trans h h') (fun a b=>by simp only [Bool.or_eq_true,decide_eq_true_iff];exact List.le_total a b) ss;simpa using this
 have h3:(L.map fun p=>(key p).data.toList).Pairwise (fun a b=>a≤b):=List.pairwise_map.2 (hr.imp fun h=>VF h);exact List.Perm.eq_of_pairwise (le:=fun a b=>a≤b) (fun a b _ _ h h'=>List.le_antisymm h h') h2 h3 h1
theorem EJ {α:Type} (key:α→ByteArray) (L:List α):(L.map fun p=>(key p).data.toList).map encStr=L.map fun p=>Value.string (key p):=by
 rw [List.map_map];exact List.map_congr_left fun p _=>by simp [encStr]
theorem vX {w:World}{B B':Nat}{e:TypeId}{size:Nat}{v:Value}{n:Nat}{xs:List Value} (h:w.ownsRow B e size v n xs) (hB:B'≤B):w.ownsRow B' e size v n xs:=by
 refine ⟨h.1,?_⟩;rcases h.2 with h0 | ⟨g,cap,cur,h1,h2,r⟩
 ·exact Or.inl h0
 ·exact Or.inr ⟨g,cap,cur,h1,Nat.le_trans hB h2,r⟩
theorem aJb (x:Nat) (t:cA) (S:Nat→Prop) (M:Nat) (w:World) (h:zB w S x t M) (hl:t.sers.length≤1000000000):
 Calls Tryz.prog 159 #[.pointer (some ⟨x,0,none⟩)] w fun e w'=>∃v,e=.returned v∧w'.ownsRow w.heap.size 9 1 v t.sers.length (t.sers.map fun p=>.string p.s)∧Below w.heap.size w w':=by
 obtain ⟨lm,sm,cm,iv,Q,hs,D,h⟩:=h;have c2:w.cell? ⟨x,2,none⟩=some (.map (some sm)):=h.blk.cell 2;have hq:Q.length=t.sers.length:=by rw [←h.q1,List.length_map]
 have hsz:Maps.size (kC (Q.map fun q=>(q.1.s,kD q.2)))=t.sers.length:=by rw [oI,hq]
 have HK:Hid (Calls Tryz.prog 202 #[.map (some sm)] w fun e w'=>e=.returned (.func (.func 236) #[] #[.pointer (some ⟨w.heap.size,0,none⟩)])∧w'=w.alloc (.cells #[.map (some sm)] 224)):=callsIn_wide.1 (Tryz.maps_Keys_202 (some sm) w);have HS:Hid (Calls Tryz.prog 114 #[.func (.func 236) #[] #[.pointer (some ⟨w.heap.size,0,none⟩)]] (w.alloc (.cells #[.map (some sm)] 224)) fun e w'=>∃v,e=.returned v∧w'.ownsRow w.heap.size 9 1 v t.sers.length (t.sers.map fun p=>.string p.s)∧Below w.heap.size w w'):=by
  refine Calls.mono (callsIn_wide.1 (Tryz.slices_Sorted_keys_114_202 sm _ _ wC w h.sers (by rw [hsz];unfold maxLen;omega) (by rw [hsz];omega))) ?_;rintro e w1 ⟨v,ss,rfl,hp,hrow,_,hb⟩;have hk:(strKeys (kC (Q.map fun q=>(q.1.s,kD q.2))))=t.sers.map fun p=>p.s.data.toList:=by
   rw [jP,List.map_map,←h.q1,List.map_map];rfl
  rw [hk] at hp;have hlen:ss.length=t.sers.length:=by rw [hp.length_eq,List.length_map]
  rw [oZ (key:=fun p:gA=>p.s) h.rs hp,EJ (fun p:gA=>p.s),hlen] at hrow;exact ⟨v,rfl,vX hrow (by simp),rA (bA _ _) hb⟩
 clear h hq hsz;go_enter Tryz.func159,Tryz.ntmps159;go_wp2_with fail;refine HK.out.mono ?_;rintro e w1 ⟨rfl,rfl⟩;go_wp2_with fail;refine HS.out.mono ?_;rintro e w2 ⟨v,rfl,hrow,hb⟩;have HR:=iA hrow;have HB:=iA hb;clear hrow hb;go_wp2;go_ret;exact ⟨v,rfl,HR.out,HB.out⟩
end Go.Proofs.YtcneojllbkacoaaGreatDoor
