import Derived.Test.YtcneojllbkacoaaGreatDoorJ01IFits
import Derived.Test.YtcneojllbkacoaaGreatDoorJ02Shelf
set_option maxRecDepth 100000
set_option maxHeartbeats 2000000
namespace Go.Proofs.YtcneojllbkacoaaGreatDoor
open Go.RowKit
def okM (marks:List UInt8) (c:UInt8):Bool:=(97≤c&&c≤122) ||(48≤c&&c≤57) ||decide (0≤Lib.indexByte marks c)
def dO (s:ByteArray) (most:Int) (marks:ByteArray):Bool:=decide (1≤s.size) &&decide ((s.size:Int)≤most) &&s.data.toList.all (okM marks.data.toList)
theorem aEv (mk:ByteArray) (c:UInt8) (w:World):Calls Tryz.prog 218 #[.string mk,.int .u8 (c.toNat:Int)] w fun e w'=>e=.returned (.int .i64 (Lib.indexByte mk.data.toList c))∧w'=w:=by
 have:=Tryz.strings_IndexByte mk (c.toNat:Int) w;simpa using this
theorem yT {s:ByteArray}{f:UInt8→Bool}{k:Nat} (h:k<s.size):(s.data.toList.take (k+1)).all f=((s.data.toList.take k).all f&&f s[k]):=by
 rw [iQ s k h];simp
theorem aBu {l:List UInt8}{f:UInt8→Bool}{k:Nat} (h:(l.take k).all f=false):l.all f=false:=by
 rw [Bool.eq_false_iff] at h ⊢;intro h';apply h;simp only [List.all_eq_true] at h' ⊢;exact fun x hx=>h' x (List.mem_of_mem_take hx)
theorem aFm (c:UInt8):(97≤c&&c≤122)=decide (97≤(c.toNat:Int)∧(c.toNat:Int)≤122):=by rw [Bool.eq_iff_iff];simp [UInt8.le_iff_toNat_le];omega
theorem aIo (c:UInt8):(48≤c&&c≤57)=decide (48≤(c.toNat:Int)∧(c.toNat:Int)≤57):=by rw [Bool.eq_iff_iff];simp [UInt8.le_iff_toNat_le];omega
theorem AX (s:ByteArray) (most:Int) (mk:ByteArray) (w:World) (hs:s.size≤maxLen):
 Calls Tryz.prog 186 #[.string s,.int .i64 most,.string mk] w fun e w'=>e=.returned (.bool (dO s most mk))∧w'=w:=by
 unfold maxLen at hs;by_cases h0:(s.size:Int)<1
 ·have HN:Hid (dO s most mk=false):=by show _=_;simp [dO];omega
  go_enter Tryz.func186,Tryz.ntmps186;go_wp2;go_ret;exact ⟨jA HN.out.symm,rfl⟩
 by_cases h1:most<(s.size:Int)
 ·have HN:Hid (dO s most mk=false):=by
   show _=_;have:decide ((s.size:Int)≤most)=false:=by simp;omega
   simp [dO,this]
  go_enter Tryz.func186,Tryz.ntmps186;go_wp2;go_ret;exact ⟨jA HN.out.symm,rfl⟩
 have HN:Hid (dO s most mk=s.data.toList.all (okM mk.data.toList)):=by
  show _=_;have e1:1≤s.size:=by omega
  have e2:(s.size:Int)≤most:=by omega
  simp [dO,e1,e2]
 go_enter Tryz.func186,Tryz.ntmps186;go_wp2;go_loop [7,8,20] (fun _ _ i=>∃k:Nat,k≤s.size∧i=.int .i64 k∧(s.data.toList.take k).all (okM mk.data.toList)=true) (fun _ _ i=>s.size - (intOf i).toNat)
 case atStart=>exact ⟨0,Nat.zero_le _,rfl,by simp⟩
 case round=>
  obtain ⟨k,hk,rfl,hok⟩:=hrel;have HOK:Hid _:=hok;clear hok;by_cases hlt:k<s.size
  ·have hsn:=yT (f:=okM mk.data.toList) hlt;rw [HOK.out,Bool.true_and,okM,aFm,aIo] at hsn;have HS:Hid _:=hsn;clear hsn;have HX:=fun W=>aEv mk s[k] W;generalize Lib.indexByte mk.data.toList s[k]=ix at *;have HXX:Hid _:=HX;clear HX;go_wp2_with (go_at_call 218;refine (HXX.out _).mono ?_;rintro e w' ⟨rfl,rfl⟩);all_goals first
    | (go_ret
       refine ⟨jA ?_,rfl⟩
       rw [HN.out]
       refine (aBu (k:=k+1) ?_).symm
       rw [HS.out]
       simp at *
       omega)
    | (refine ⟨⟨k+1,by omega,by go_num,?_⟩,by simp [intOf];omega⟩
       rw [HS.out]
       simp at *
       omega)
  ·go_wp2;go_ret;exact ⟨jA (by rw [HN.out,←HOK.out,List.take_of_length_le (by simp;omega)]),rfl⟩
theorem lZ {P:Program}{w:World} (base:Nat) (t ty e:TypeId) (i:TypeInfo) (size:Nat) (ht:P.underlying t=some (.slice e)) (hi:P.info? e=some i)
 (v:Value) (n:Nat) (xs:List Value) (hown:w.ownsRow base e size v n xs) (a2:Option Addr) (c2:Nat):
 (Builtin.append_ #[t,t] ty #[v,.slice a2 0 c2]).run P w=.ok v w:=by
 have hl:∀ad:Addr,(loadCells ad 0).run P w=.ok #[] w:=fun ad=>by
  simp [loadCells,loadCellsFrom]
 rcases hown.2 with ⟨rfl,rfl⟩ | ⟨g,cap,cur,rfl,_,_,hnc,_⟩
 ·cases a2<;>simp [Builtin.append_,run_underlying ht,sizeOf,typeInfo,hi,Builtin.lenOf,Builtin.firstCells,hl]
 ·cases a2<;>simp [Builtin.append_,run_underlying ht,sizeOf,typeInfo,hi,Builtin.lenOf,Builtin.firstCells,hnc,storeCells,hl]
def eS (reg x:Nat):Nat:=if (reg+x) % 2=1 then (reg / 2) ^^^ 2197175160 else reg / 2
def pL (reg b:Nat):Nat→Nat
 | 0=>reg
 | k+1=>eS (pL reg b k) (b / 2 ^ k)
def kW (reg:Nat) (c:UInt8):Nat:=pL reg c.toNat 8
def SR (l:List UInt8):Nat:=l.foldl kW 4294967295
def uQ (s:ByteArray):Nat:=4294967295 - SR s.data.toList
theorem aEc {reg x:Nat} (h:reg<4294967296):eS reg x<4294967296:=by
 unfold eS;split
 ·exact Nat.xor_lt_two_pow (n:=32) (by omega) (by omega)
 ·omega
theorem wU {reg b:Nat} (h:reg<4294967296):∀k,pL reg b k<4294967296
 | 0=>h
 | k+1=>aEc (wU h k)
theorem aLx (l:List UInt8):SR l<4294967296:=by
 have hg:∀(l:List UInt8) (r:Nat),r<4294967296→l.foldl kW r<4294967296:=fun l=>by
  induction l with
  | nil=>exact fun r h=>h
  | cons c l ih=>exact fun r h=>ih _ (wU h 8)
 exact hg l _ (by omega)
theorem KH (l:List UInt8) (c:UInt8):SR (l++[c])=kW (SR l) c:=by simp [SR]
theorem aLz (s:ByteArray):uQ s<4294967296:=by unfold uQ;omega
theorem aNp (a b:Nat) (ha:a<4611686018427387904) (hb:b<4611686018427387904):bits .xor .i64 (a:Int) (b:Int)=((a ^^^ b:Nat):Int):=by
 have hx:a ^^^ b<2 ^ 62:=Nat.xor_lt_two_pow (by omega) (by omega);show IntKind.i64.wrap ((BitVec.ofInt 64 (a:Int) ^^^ BitVec.ofInt 64 (b:Int)).toNat:Int)=_;rw [BitVec.toNat_xor,BitVec.ofInt_natCast,BitVec.ofInt_natCast,BitVec.toNat_ofNat,BitVec.toNat_ofNat,Nat.mod_eq_of_lt (by omega),Nat.mod_eq_of_lt (by omega)];simp only [IntKind.wrap,IntKind.bits,IntKind.signed];simp;omega
def CS (v:Int):Nat→Int
 | 0=>v
 | k+1=>CS v k / 256
def pX (v:Int):Nat→List Int
 | 0=>[]
 | n+1=>CS v n % 256 :: pX v n
def nC (n:Nat) (v:Int):ByteArray:=strOfNums (pX v n)
theorem rS (v:Int):∀n,(pX v n).length=n
 | 0=>rfl
 | n+1=>by simp [pX,rS v n]
theorem yB (n:Nat) (v:Int):(nC n v).size=n:=by
 rw [nC,strOfNums_size,rS]
theorem OP:∃i,Tryz.prog.info? 5=some i∧i.zero=some (.int .u8 0)∧i.size=1∧i.bytes=1:=by
 have h:(Tryz.prog.info? 5).map (fun i=>(i.zero,i.size,i.bytes))=some (some (.int .u8 0),1,1):=by kernel_rfl
 obtain ⟨i,hi,hz⟩:=Option.map_eq_some_iff.1 h;simp only [Prod.mk.injEq] at hz;exact ⟨i,hi,hz.1,hz.2.1,hz.2.2⟩
theorem aIk {w:World}{B:Nat}{av:Option Addr}{cv:Nat}{ys:List Int} (h:w.ownsRow B 5 1 (.slice av ys.length cv) ys.length (ys.map (Value.int .u8))):
 (convert 102 9 (.slice av ys.length cv)).run Tryz.prog w=.ok (.string (strOfNums ys)) w:=by
 rcases h.2 with ⟨he,hl⟩ | ⟨g,cap,cur,he,_,hg,hle,_,hsz,htk⟩
 ·simp only [Value.slice.injEq] at he;obtain ⟨rfl,h1,rfl⟩:=he;have e:ys=[]:=List.length_eq_zero_iff.1 h1;subst e;exact run_convert_bytes_nil w 102 5 Tryz.underlying102 Tryz.underlying5 _ _ 9 Tryz.underlying9
 ·simp only [Value.slice.injEq] at he;obtain ⟨rfl,_,rfl⟩:=he;refine run_convert_bytes_arg w 102 5 Tryz.underlying102 Tryz.underlying5 g 0 _ _ ys rfl (fun i hi=>?_) 9 Tryz.underlying9;rw [Nat.zero_add,cell_of_row w g i cur _ _ hg];have h2:(cur.toList.take (ys.length * 1))[i]?=(ys.map (Value.int .u8))[i]?:=by rw [htk]
  rw [List.getElem?_take_of_lt (by omega)] at h2;rw [←Array.getElem?_toList,h2];simp [List.getD,List.getElem?_eq_getElem hi]
theorem bG (n:Nat) (v:Int) (w:World) (hn:n≤8) (h0 : -9223372036854775808≤v) (h1:v≤9223372036854775807):
 Calls Tryz.prog 55 #[.int .i64 n,.int .i64 v] w fun e w'=>e=.returned (.string (nC n v))∧Below w.heap.size w w':=by
 obtain ⟨ti,hti,hz0,hz1,hz2⟩:=OP;have HI:Hid (Tryz.prog.info? 5=some ti):=hti;clear hti;have HV:Hid (-9223372036854775808≤v∧v≤9223372036854775807):=⟨h0,h1⟩
 clear h0 h1;go_enter Tryz.func55,Tryz.ntmps55;go_wp2;go_loopw [5,6,7,8] (fun out i _ _ wr=>∃(m:Nat) (ys:List Int) (av:Option Addr) (cv:Nat),ys.length+m=n∧Hid (ys++pX v m=pX v n)∧i=.int .i64 ((m:Int) - 1)∧out=.slice av ys.length cv∧Hid (wr.ownsRow w.heap.size 5 1 (.slice av ys.length cv) ys.length (ys.map (Value.int .u8)))∧Below w.heap.size w wr) (fun _ i _ _ _=>((intOf i)+1).toNat)
 case atStart=>
  exact ⟨n,[],_,_,by simp,by show _=_;simp,by simp,rfl,World.ownsRow_made w #[] 0 (Nat.le_refl _) (by simp [maxLen]) (by simp),bA _ _⟩
 case round=>
  obtain ⟨m,ys,av,cv,hm,hnum,rfl,rfl,hrow,hbel⟩:=hrel;by_cases hp:0<m
  ·obtain ⟨r,rfl⟩:∃r,m=r+1:=⟨m - 1,by omega⟩
   have er:((r+1:Nat):Int) - 1=(r:Int):=by omega
   rw [er];clear er;go_wp2;go_loop [7,8] (fun x k=>∃(j:Nat) (X:Int),j≤r∧k=.int .i64 j∧x=.int .i64 X∧Hid (X=CS v j)) (fun _ k=>r - (intOf k).toNat)
   case atStart=>exact ⟨0,v,Nat.zero_le _,rfl,rfl,rfl⟩
   case round=>
    obtain ⟨j,X,hj,rfl,rfl,hX⟩:=hrel;by_cases hlt:j<r
    ·go_wp2;exact ⟨⟨j+1,X / 256,by omega,by go_num,rfl,by show _=_;rw [CS,hX.out]⟩,by simp [intOf];omega⟩
    ·have e:j=r:=by omega
     subst e;have hsz:=hbel.size;go_wp2_with (at_builtin;refine wpList_append_lies _ rfl _ _ _ rfl w.heap.size 5 ti _ 1 1 Tryz.underlying102 HI.out hz0 hz1 hz2 rfl (by omega) (.slice av ys.length cv) ys.length (ys.map (Value.int .u8)) rfl (by exact yA hrow.out (bA _ _)) ⟨wr.heap.size,0,none⟩ 1 1 [.int .u8 (X % 256)] rfl rfl (by exact World.news_of_block (heap_alloc_new _ _)) (by simp [Value.oneCell']) (by omega) (by simp [maxLen];omega) (by omega) (by simp;omega) (wr.heap.size+1) (by simp) ?_;intro g5 cap5 w5 hown5 hgrow5 hat5 hlt5);have hB5:Below w.heap.size w w5:=(rA hbel (bA _ _)).grown hgrow5 (by simp;omega) (fun q hq=>by
      rcases hrow.out.2 with ⟨he,_⟩ | ⟨g,cap,cur,he,hB,_⟩
      ·rw [he] at hq;simp [Value.ownBlock] at hq
      ·rw [he] at hq;simp [Value.ownBlock] at hq;omega)
     have hxs:ys.map (Value.int .u8)++[Value.int .u8 (X % 256)]=(ys++[X % 256]).map (Value.int .u8):=by simp
     have hle:(ys++[X % 256]).length=ys.length+1:=by simp
     rw [hxs,←hle] at hown5;refine ⟨⟨j,ys++[X % 256],some ⟨g5,0,none⟩,cap5,by rw [hle];omega,?_,rfl,by rw [hle],hown5,hB5⟩,by simp [intOf]⟩;show _=_;rw [←hnum.out,pX,hX.out];simp
  ·have e:m=0:=by omega
   subst e;have hcv:=aIk hrow.out;go_wp2;go_ret;refine ⟨congrArg (fun x=>Ending.returned (.string x)) ?_,hbel⟩;rw [nC,←hnum.out,pX,List.append_nil]
def kV (v:Nat):Nat→List Nat
 | 0=>[]
 | n+1=>v / 256 ^ n % 256 :: kV v n
theorem BD (v:Nat):∀n,(kV v n).length=n
 | 0=>rfl
 | n+1=>by simp [kV,BD v n]
theorem WO (v:Nat):∀k,CS (v:Int) k=((v / 256 ^ k:Nat):Int)
 | 0=>by simp [CS]
 | k+1=>by rw [CS,WO v k,Nat.pow_succ,←Nat.div_div_eq_div_mul];omega
theorem GC (v:Nat):∀n,pX (v:Int) n=(kV v n).map (fun x:Nat=>(x:Int))
 | 0=>rfl
 | n+1=>by rw [pX,kV,List.map_cons,GC v n,WO];simp
theorem VQ (a b n:Nat):∀m,m≤n→kV (a * 256 ^ n+b) m=kV b m
 | 0,_=>rfl
 | m+1,h=>by
   rw [kV,kV,VQ a b n m (by omega)];congr 1;obtain ⟨d,rfl⟩:∃d,n=m+1+d:=⟨n - (m+1),by omega⟩
   have e:a * 256 ^ (m+1+d)+b=b+256 ^ m * (a * 256 ^ d * 256):=by rw [Nat.pow_add,Nat.pow_succ,Nat.add_comm];congr 1;ac_rfl
   rw [e,Nat.add_mul_div_left _ _ (Nat.pow_pos (by omega))];omega
theorem RY (c:UInt8) (l:List UInt8):tU (c :: l)=c.toNat * 256 ^ l.length+tU l:=by
 have hg:∀(l:List UInt8) (v:Nat),l.foldl (fun v c=>v * 256+c.toNat) v=v * 256 ^ l.length+tU l:=fun l=>by
  induction l with
  | nil=>intro v;simp [tU]
  | cons d l ih=>
    intro v;have h1:=ih (v * 256+d.toNat);have h2:=ih (0 * 256+d.toNat);simp only [tU,List.foldl_cons,List.length_cons,Nat.pow_succ] at h1 h2 ⊢;rw [h1,h2];simp only [Nat.add_mul,Nat.zero_mul,Nat.zero_add];rw [Nat.add_assoc];congr 1;ac_rfl
 have:=hg l (0 * 256+c.toNat);simpa [tU] using this
theorem aCi:∀(l:List UInt8),kV (tU l) l.length=l.map (fun c=>c.toNat)
 | []=>rfl
 | c :: l=>by
   have hb:=DO l;have hc:=c.toNat_lt;rw [List.length_cons,kV,RY,VQ _ _ _ _ (Nat.le_refl _),aCi l,List.map_cons];congr 1;rw [Nat.add_comm,Nat.mul_comm,Nat.add_mul_div_left _ _ (Nat.pow_pos (by omega)),Nat.div_eq_of_lt hb];omega
theorem aCj (l:List UInt8) (n:Nat) (h:l.length=n):nC n (tU l:Nat)=⟨l.toArray⟩:=by
 subst h;rw [nC,GC,aCi,strOfNums];congr 2;rw [List.map_map,List.map_map];conv=>rhs;rw [←List.map_id l]
 congr 1;funext c;simp
theorem aCa (v:Nat):∀n,tU ((kV v n).map UInt8.ofNat)=v % 256 ^ n
 | 0=>by simp [kV,tU,Nat.mod_one]
 | n+1=>by
   rw [kV,List.map_cons,RY,aCa v n,List.length_map,BD,UInt8.toNat_ofNat_of_lt' (by show _<256;omega),Nat.pow_succ,Nat.mod_mul];rw [Nat.mul_comm,Nat.add_comm]
theorem aGg (n v:Nat):(nC n v).data.toList=(kV v n).map UInt8.ofNat:=by
 rw [nC,GC,strOfNums_data,List.map_map];congr 1
theorem NK (n v:Nat) (h:v<256 ^ n):tU (nC n v).data.toList=v:=by
 rw [aGg,aCa,Nat.mod_eq_of_lt h]
def mD (p:ByteArray):ByteArray:=if 1≤p.size∧p.size≤60000 then nC 4 p.size++nC 4 (uQ p:Nat)++p else ByteArray.empty
theorem lS {p:ByteArray} (h:1≤p.size∧p.size≤60000):(mD p).size=8+p.size:=by
 rw [mD,if_pos h,ByteArray.size_append,ByteArray.size_append,yB,yB]
theorem xz (v:Int):∀k,CS v k=v / 2 ^ (8 * k)
 | 0=>by simp [CS]
 | k+1=>by
   rw [CS,xz v k,show 8 * (k+1)=8 * k+8 by omega,Int.pow_add,Int.ediv_ediv_of_nonneg (Int.pow_nonneg (by omega))];rfl
theorem VP (v:Int):∀n i,i<n→(pX v n)[i]?=some (CS v (n - 1 - i) % 256)
 | 0,i,h=>absurd h (by omega)
 | n+1,0,_=>by simp [pX]
 | n+1,i+1,h=>by
   rw [pX,List.getElem?_cons_succ,VP v n i (by omega)];congr 3;omega
theorem bH (n:Nat) (v:Int) (w:World) (hn:n≤8):
 Calls Tryz.prog 117 #[.int .i64 v,.int .i64 n] w fun e w'=>e=.returned (.string (nC n v))∧Below w.heap.size w w':=by
 obtain ⟨C,hC,hmk⟩:∃C:Array Value,C.size=n∧(Instr.makeSlice 102 (.int .i64 n) (.int .i64 n)).run Tryz.prog w=.ok (.slice (some ⟨w.heap.size,0,none⟩) n n) (w.alloc (.cells C 5)):=by
  obtain ⟨ti,hti,hz0,hz1,hz2⟩:=OP;have h:=run_make (P:=Tryz.prog) w 102 5 ti _ Tryz.underlying102 hti hz0 .i64 .i64 (n:Int) (n:Int) (by omega) (by omega) (by rw [hz2];omega) (by omega);rw [hz1,Int.toNat_natCast,Nat.mul_one] at h;exact ⟨_,size_madeCells _ _,h⟩
 have HB:Hid (lA (w.alloc (.cells C 5)) w.heap.size C 5):=heap_alloc_new _ _;go_enter Tryz.func117,Tryz.ntmps117;go_wp2;go_loopw [6,11] (fun _ c wr=>∃(k:Nat) (cur:Array Value),k≤n∧c=.int .i64 k∧Hid (lA wr w.heap.size cur 5)∧cur.size=n∧Hid (∀i,i<k→cur[n - 1 - i]?=some (.int .u8 (CS v i % 256)))∧Hid (Below w.heap.size w wr)) (fun _ c _=>n - (intOf c).toNat)
 case atStart=>exact ⟨0,C,by omega,rfl,HB,hC,fun i hi=>absurd hi (by omega),bA _ _⟩
 case round=>
  obtain ⟨k,cur,hk,rfl,hblk,hcs,hcur,hbel⟩:=hrel;by_cases hlt:k<n
  ·obtain ⟨p,hp,hpn⟩:∃p:Nat,(n:Int) - 1 - (k:Int)=(p:Int)∧Hid (p=n - 1 - k):=⟨n - 1 - k,by omega,rfl⟩
   have hc:wr.cell? ⟨w.heap.size,p,none⟩=some (cur[p]'(by have:=hpn.out;omega)):=by rw [hblk.out.cell];exact Array.getElem?_eq_getElem _
   have hf:=hblk.out.free p;go_wp2;refine ⟨⟨k+1,cur.setIfInBounds p (.int .u8 (v / 2 ^ (8 * k) % 256)),by omega,by go_num,hblk.out.set p _,by simp [hcs],?_,hbel.out.setCell (p:=⟨w.heap.size,p,none⟩) (Nat.le_refl _) _⟩,by simp [intOf];omega⟩;intro i hi;have hp2:=hpn.out;rw [Array.getElem?_setIfInBounds];split
   ·rename_i e;have e2:i=k:=by omega
    subst e2;rw [if_pos (by omega),xz]
   ·rename_i e;exact hcur.out i (by omega)
  ·have e:k=n:=by omega
   subst e;have hcv:(convert 102 9 (.slice (some ⟨w.heap.size,0,none⟩) k k)).run Tryz.prog wr=.ok (.string (nC k v)) wr:=by
    refine run_convert_bytes_arg wr 102 5 Tryz.underlying102 Tryz.underlying5 w.heap.size 0 _ _ (pX v k) (rS v k) (fun i hi=>?_) 9 Tryz.underlying9;rw [hblk.out.cell,Nat.zero_add];have h2:=hcur.out (k - 1 - i) (by omega);rw [show k - 1 - (k - 1 - i)=i by omega] at h2;rw [h2];have h3:=VP v k i (by omega);simp [List.getD,h3]
   go_wp2;go_ret;exact ⟨rfl,hbel.out⟩
theorem GY (f:eA) (left:Int) (w:World) (h0:0≤left) (h1:left≤1048576) (hn:f.name.size≤maxLen) (hd:f.data.size≤maxLen):
 Calls Tryz.prog 91 #[.agg #[.string f.name,.string f.data,.int .i64 f.synced],.int .i64 left] w fun e w'=>e=.returned (.int .i64 (szF left f))∧Below w.heap.size w w':=by
 unfold maxLen at hn hd;obtain ⟨nm,da,sy⟩:=f;simp only at hn hd ⊢;by_cases c1:left - nm.size<0
 ·have e:szF left ⟨nm,da,sy⟩= -1:=by unfold szF;rw [if_neg];simp only;omega
  rw [e];go_enter Tryz.func91,Tryz.ntmps91;go_wp2;go_ret;exact ⟨rfl,(Below.refl _ _).alloc (Nat.le_refl _) _⟩
 ·by_cases c2:left - nm.size - da.size<0
  ·have e:szF left ⟨nm,da,sy⟩= -1:=by unfold szF;rw [if_neg];simp only;omega
   rw [e];go_enter Tryz.func91,Tryz.ntmps91;go_wp2;go_ret;exact ⟨rfl,(Below.refl _ _).alloc (Nat.le_refl _) _⟩
  ·have e:szF left ⟨nm,da,sy⟩=left - nm.size - da.size:=by unfold szF;rw [if_pos];simp only;omega
   rw [e];go_enter Tryz.func91,Tryz.ntmps91;go_wp2;go_ret;exact ⟨rfl,(Below.refl _ _).alloc (Nat.le_refl _) _⟩
theorem BU (a:Option Addr) (cap:Nat) (fs:List eA) (left:Int) (w:World) (h0:0≤left) (h1:left≤1048576) (hf:kA w a fs) (hs:qI fs) (hlen:fs.length≤maxLen):
 Calls Tryz.prog 47 #[.slice a fs.length cap,.int .i64 left] w fun e w'=>e=.returned (.int .i64 (cM left fs))∧Below w.heap.size w w':=by
 unfold maxLen at hlen;by_cases c1:left - fs.length<0
 ·have e:cM left fs = -1:=by unfold cM;rw [if_neg];omega
  rw [e];clear hf hs;go_enter Tryz.func47,Tryz.ntmps47;go_wp2;go_ret;exact ⟨rfl,Below.refl _ _⟩
 ·have hne:=c1;have HF:Hid (kA w a fs):=hf;have HS:Hid (qI fs):=hs;clear hf hs;go_enter Tryz.func47,Tryz.ntmps47;go_wp2;go_loopw [1,5] (fun l i wr=>∃k:Nat,k≤fs.length∧i=.int .i64 k∧(bulk (fs.take k):Int)≤left - fs.length∧l=.int .i64 (left - fs.length - bulk (fs.take k))∧Below w.heap.size w wr) (fun _ i _=>fs.length - (intOf i).toNat)
  case atStart=>exact ⟨0,Nat.zero_le _,rfl,by simp [bulk];omega,by simp [bulk],Below.refl _ _⟩
  case round=>
   obtain ⟨k,hk,rfl,hle,rfl,hbel⟩:=hrel;by_cases hlt:k<fs.length
   ·obtain ⟨b,o,rfl,hb,c0,c1,c2⟩:=(HF.out.later hbel).at hlt;have hss:=HS.out k hlt;have hts:=DS fs k hlt;have htl:=NO fs (k+1);by_cases c3:((fs[k].name.size+fs[k].data.size:Nat):Int)≤left - fs.length - bulk (fs.take k)
    ·have e:szF (left - fs.length - bulk (fs.take k)) fs[k]=left - fs.length - bulk (fs.take (k+1)):=by
      unfold szF;rw [if_pos (by omega),hts];omega
     have E:Hid _:=e;have hle2:(bulk (fs.take (k+1)):Int)≤left - fs.length:=by omega
     clear e hts;go_wp2_with fail;refine (GY fs[k] _ _ (by omega) (by omega) hss.1 hss.2).mono ?_;rintro e w' ⟨rfl,hb2⟩;rw [E.out];go_wp2;exact ⟨⟨k+1,by omega,by go_num,hle2,rfl,hbel.trans (hb2.mono hbel.size)⟩,by simp [intOf];omega⟩
    ·have e:szF (left - fs.length - bulk (fs.take k)) fs[k]= -1:=by
      unfold szF;rw [if_neg (by omega)]
     have E:Hid _:=e;have E2:Hid (cM left fs = -1):=by show cM left fs = -1;unfold cM;rw [if_neg (by omega)]
     clear e hts;go_wp2_with fail;refine (GY fs[k] _ _ (by omega) (by omega) hss.1 hss.2).mono ?_;rintro e w' ⟨rfl,hb2⟩;rw [E.out];go_wp2;go_ret;exact ⟨jB E2.out.symm,hbel.trans (hb2.mono hbel.size)⟩
   ·go_wp2;go_ret;have e:fs.take k=fs:=List.take_of_length_le (by omega);rw [e] at hle ⊢;exact ⟨jB (by unfold cM;rw [if_pos (by omega)]),hbel⟩
theorem aBe (a:Option Addr) (cap:Nat) (fs:List eA) (c k cr fl:Int) (dn:Bool) (left:Int) (w:World) (h0:0≤left) (h1:left≤1048576) (hf:kA w a fs) (hs:qI fs) (hlen:fs.length≤maxLen):
 Calls Tryz.prog 16 #[.agg #[.slice a fs.length cap,.int .i64 c,.int .i64 k,.int .i64 cr,.int .i64 fl,.bool dn],.int .i64 left] w fun e w'=>e=.returned (.int .i64 (cM left fs))∧Below w.heap.size w w':=by
 have HF:Hid (kA w a fs):=hf;clear hf;by_cases c1:cM left fs<0
 ·have E:Hid (cM left fs = -1):=by show cM left fs = -1;unfold cM at c1 ⊢;split at c1<;>omega
  go_enter Tryz.func16,Tryz.ntmps16;go_wp2_with fail;refine (BU a cap fs left _ h0 h1 (HF.out.later ((Below.refl _ _).alloc (Nat.le_refl _) _)) hs hlen).mono ?_;rintro e w' ⟨rfl,hb2⟩;go_wp2;go_ret;exact ⟨jB E.out.symm,((Below.refl _ _).alloc (Nat.le_refl _) _).trans (hb2.mono (by simp))⟩
 ·go_enter Tryz.func16,Tryz.ntmps16;go_wp2_with fail;refine (BU a cap fs left _ h0 h1 (HF.out.later ((Below.refl _ _).alloc (Nat.le_refl _) _)) hs hlen).mono ?_;rintro e w' ⟨rfl,hb2⟩;go_wp2;go_ret;exact ⟨rfl,((Below.refl _ _).alloc (Nat.le_refl _) _).trans (hb2.mono (by simp))⟩
theorem aCw {x:ByteArray}:x.toList.isEmpty=true ↔ x=ByteArray.empty:=by
 rw [List.isEmpty_iff];constructor
 ·intro h;exact toList_inj (by rw [h,ByteArray.toList_eq];rfl)
 ·intro h;rw [h,ByteArray.toList_eq];rfl
theorem GU {x:ByteArray}:x.toList.isEmpty=false ↔ x≠ByteArray.empty:=by rw [←Bool.not_eq_true,aCw]
end Go.Proofs.YtcneojllbkacoaaGreatDoor
