import Derived.Test.YtcneojllbkacoaaGreatDoorJ01IFits
import Derived.Lib.RuneCountTail
import Derived.Test.YtcneojllbkacoaaGreatDoorJ02Shelf
import Derived.Deep.DeepCutAuto
import Derived.Deep.CutBlock
set_option maxRecDepth 100000
set_option maxHeartbeats 4000000
namespace Go.Proofs.YtcneojllbkacoaaGreatDoor
open Go.RowKit
structure eC where
 w:Int
 tl:Int
 ml:Int
 sh:Int
 ha:Int
 sg:Int
def wG (c:eC):Value:=.agg #[.int .i64 c.w,.int .i64 c.tl,.int .i64 c.ml,.int .i64 c.sh,.int .i64 c.ha,.int .i64 c.sg]
def jH (c:eC):Bool:=mA c.w 1 1000000000&&mA c.tl 0 1000000&&mA c.ml 0 1000000&&mA c.sh 1 64&&mA c.ha 0 2&&mA c.sg 100 1000000
theorem yH {x lo hi:Int} (h:mA x lo hi=true):lo≤x∧x≤hi:=by simpa [mA] using h
theorem NN {x lo hi:Int} (h:¬mA x lo hi=true):x<lo∨hi<x:=by
 by_cases h1:lo≤x
 ·by_cases h2:x≤hi
  ·exact absurd (by simp [mA,h1,h2]) h
  ·exact Or.inr (by omega)
 ·exact Or.inl (by omega)
theorem yD (x:Int) (w:World):Calls Tryz.prog 65 #[.int .i64 x] w fun e w'=>e=.returned (.bool (mA x 0 1000000))∧w'=w:=by
 go_enter Tryz.func65,Tryz.ntmps65;go_wp2_with (go_at_call 34;refine (rD _ _ _).mono ?_;rintro e w' ⟨rfl,rfl⟩);go_ret;exact ⟨rfl,rfl⟩
theorem aDu (a b c d e f:Bool):(a=false∨a=true∧(b=false∨b=true∧(c=false∨c=true∧(d=false∨d=true∧(e=false∨e=true∧(f=false∨f=true)))))):=by cases a<;>cases b<;>cases c<;>cases d<;>cases e<;>cases f<;>simp
theorem BO (c:eC) (w:World):Calls Tryz.prog 19 #[wG c] w fun e w'=>e=.returned (.bool (jH c))∧Below w.heap.size w w':=by
 unfold wG;rcases aDu (mA c.w 1 1000000000) (mA c.tl 0 1000000) (mA c.ml 0 1000000) (mA c.sh 1 64) (mA c.ha 0 2) (mA c.sg 100 1000000) with h0 | ⟨h0,h1 | ⟨h1,h2 | ⟨h2,h3 | ⟨h3,h4 | ⟨h4,h5 | h5⟩⟩⟩⟩⟩
 all_goals
  go_enter Tryz.func19,Tryz.ntmps19;go_wp2_with (go_at_call 22;refine (gC (by assumption) _).mono ?_;rintro e w' ⟨rfl,rfl⟩);go_ret;exact ⟨jA (by simp [jH, *]),bA _ _⟩
theorem AR (c:eC) (w:World):Calls Tryz.prog 30 #[wG c] w fun e w'=>e=.returned (.bool (jH c))∧Below w.heap.size w w':=by
 obtain ⟨cw,nP,cml,csh,cha,csg⟩:=c;unfold wG;simp only;by_cases g0:mA cw 1 1000000000=false
 ·have h0:¬mA cw 1 1000000000=true:=by simpa using g0
  have E:Hid (jH ⟨cw,nP,cml,csh,cha,csg⟩=false):=by show _=_;simp [jH,g0]
  have ho:=NN h0;clear h0 g0;by_cases hx:1≤cw
  ·have hy:¬cw≤1000000000:=by omega
   clear ho;go_enter Tryz.func30,Tryz.ntmps30;go_wp2_with (first | (go_at_call 65;refine (yD _ _).mono ?_;rintro e w' ⟨rfl,rfl⟩) | (go_at_call 34;refine (rD _ _ _).mono ?_;rintro e w' ⟨rfl,rfl⟩));go_ret;exact ⟨jA (by first | exact E.out.symm | (rw [E.out];simp;omega)),bA _ _⟩
  ·clear ho;go_enter Tryz.func30,Tryz.ntmps30;go_wp2_with (first | (go_at_call 65;refine (yD _ _).mono ?_;rintro e w' ⟨rfl,rfl⟩) | (go_at_call 34;refine (rD _ _ _).mono ?_;rintro e w' ⟨rfl,rfl⟩));go_ret;exact ⟨jA (by first | exact E.out.symm | (rw [E.out];simp;omega)),bA _ _⟩
 have h0:mA cw 1 1000000000=true:=by simpa using g0
 clear g0;obtain ⟨i0,j0⟩:=yH h0;by_cases g1:mA nP 0 1000000=false
 ·have h1:¬mA nP 0 1000000=true:=by simpa using g1
  have E:Hid (jH ⟨cw,nP,cml,csh,cha,csg⟩=false):=by show _=_;simp [jH,h0,g1]
  clear h1;go_enter Tryz.func30,Tryz.ntmps30;go_wp2_with (first | (go_at_call 65;refine (yD _ _).mono ?_;rintro e w' ⟨rfl,rfl⟩) | (go_at_call 34;refine (rD _ _ _).mono ?_;rintro e w' ⟨rfl,rfl⟩));go_ret;exact ⟨jA (by first | exact E.out.symm | (rw [E.out];simp;omega)),bA _ _⟩
 have h1:mA nP 0 1000000=true:=by simpa using g1
 clear g1;by_cases g2:mA cml 0 1000000=false
 ·have h2:¬mA cml 0 1000000=true:=by simpa using g2
  have E:Hid (jH ⟨cw,nP,cml,csh,cha,csg⟩=false):=by show _=_;simp [jH,h0,h1,g2]
  clear h2;go_enter Tryz.func30,Tryz.ntmps30;go_wp2_with (first | (go_at_call 65;refine (yD _ _).mono ?_;rintro e w' ⟨rfl,rfl⟩) | (go_at_call 34;refine (rD _ _ _).mono ?_;rintro e w' ⟨rfl,rfl⟩));go_ret;exact ⟨jA (by first | exact E.out.symm | (rw [E.out];simp;omega)),bA _ _⟩
 have h2:mA cml 0 1000000=true:=by simpa using g2
 clear g2;by_cases g3:mA csh 1 64=false
 ·have h3:¬mA csh 1 64=true:=by simpa using g3
  have E:Hid (jH ⟨cw,nP,cml,csh,cha,csg⟩=false):=by show _=_;simp [jH,h0,h1,h2,g3]
  have ho:=NN h3;clear h3 g3;by_cases hx:1≤csh
  ·have hy:¬csh≤64:=by omega
   clear ho;go_enter Tryz.func30,Tryz.ntmps30;go_wp2_with (first | (go_at_call 65;refine (yD _ _).mono ?_;rintro e w' ⟨rfl,rfl⟩) | (go_at_call 34;refine (rD _ _ _).mono ?_;rintro e w' ⟨rfl,rfl⟩));go_ret;exact ⟨jA (by first | exact E.out.symm | (rw [E.out];simp;omega)),bA _ _⟩
  ·clear ho;go_enter Tryz.func30,Tryz.ntmps30;go_wp2_with (first | (go_at_call 65;refine (yD _ _).mono ?_;rintro e w' ⟨rfl,rfl⟩) | (go_at_call 34;refine (rD _ _ _).mono ?_;rintro e w' ⟨rfl,rfl⟩));go_ret;exact ⟨jA (by first | exact E.out.symm | (rw [E.out];simp;omega)),bA _ _⟩
 have h3:mA csh 1 64=true:=by simpa using g3
 clear g3;obtain ⟨i3,j3⟩:=yH h3;by_cases g4:mA cha 0 2=false
 ·have h4:¬mA cha 0 2=true:=by simpa using g4
  have E:Hid (jH ⟨cw,nP,cml,csh,cha,csg⟩=false):=by show _=_;simp [jH,h0,h1,h2,h3,g4]
  clear h4;go_enter Tryz.func30,Tryz.ntmps30;go_wp2_with (first | (go_at_call 65;refine (yD _ _).mono ?_;rintro e w' ⟨rfl,rfl⟩) | (go_at_call 34;refine (rD _ _ _).mono ?_;rintro e w' ⟨rfl,rfl⟩));go_ret;exact ⟨jA (by first | exact E.out.symm | (rw [E.out];simp;omega)),bA _ _⟩
 have h4:mA cha 0 2=true:=by simpa using g4
 clear g4;by_cases g5:mA csg 100 1000000=false
 ·have h5:¬mA csg 100 1000000=true:=by simpa using g5
  have E:Hid (jH ⟨cw,nP,cml,csh,cha,csg⟩=false):=by show _=_;simp [jH,h0,h1,h2,h3,h4,g5]
  have ho:=NN h5;clear h5 g5;by_cases hx:100≤csg
  ·have hy:¬csg≤1000000:=by omega
   clear ho;go_enter Tryz.func30,Tryz.ntmps30;go_wp2_with (first | (go_at_call 65;refine (yD _ _).mono ?_;rintro e w' ⟨rfl,rfl⟩) | (go_at_call 34;refine (rD _ _ _).mono ?_;rintro e w' ⟨rfl,rfl⟩));go_ret;exact ⟨jA (by first | exact E.out.symm | (rw [E.out];simp;omega)),bA _ _⟩
  ·clear ho;go_enter Tryz.func30,Tryz.ntmps30;go_wp2_with (first | (go_at_call 65;refine (yD _ _).mono ?_;rintro e w' ⟨rfl,rfl⟩) | (go_at_call 34;refine (rD _ _ _).mono ?_;rintro e w' ⟨rfl,rfl⟩));go_ret;exact ⟨jA (by first | exact E.out.symm | (rw [E.out];simp;omega)),bA _ _⟩
 have h5:mA csg 100 1000000=true:=by simpa using g5
 clear g5;obtain ⟨i5,j5⟩:=yH h5;have E:Hid (jH ⟨cw,nP,cml,csh,cha,csg⟩=true):=by show _=_;simp [jH,h0,h1,h2,h3,h4,h5]
 go_enter Tryz.func30,Tryz.ntmps30;go_wp2_with (first | (go_at_call 65;refine (yD _ _).mono ?_;rintro e w' ⟨rfl,rfl⟩) | (go_at_call 34;refine (rD _ _ _).mono ?_;rintro e w' ⟨rfl,rfl⟩));go_ret;exact ⟨jA (by first | exact E.out.symm | (rw [E.out];simp;omega)),bA _ _⟩
structure zA where
 name:ByteArray
 value:ByteArray
def bP (w:World) (b o:Nat) (ls:List zA):Prop:=
 ∀i (h:i<ls.length),w.cell? ⟨b,o+i * 2,none⟩=some (.string ls[i].name)∧w.cell? ⟨b,o+i * 2+1,none⟩=some (.string ls[i].value)
def lD (w:World) (a:Option Addr) (ls:List zA):Prop:=ls=[]∨∃b o,a=some ⟨b,o,none⟩∧b<w.heap.size∧bP w b o ls
theorem lD.later {w w':World}{a:Option Addr}{ls:List zA} (h:lD w a ls) (hb:Below w.heap.size w w'):lD w' a ls:=by
 rcases h with h | ⟨b,o,rfl,hlt,h⟩
 ·exact Or.inl h
 ·refine Or.inr ⟨b,o,rfl,Nat.lt_of_lt_of_le hlt hb.size,fun i hi=>?_⟩;obtain ⟨h1,h2⟩:=h i hi;exact ⟨by rw [←h1];exact hb.cell hlt,by rw [←h2];exact hb.cell hlt⟩
theorem lD.at {w:World}{a:Option Addr}{ls:List zA} (h:lD w a ls){i:Nat} (hi:i<ls.length):
 ∃b o,a=some ⟨b,o,none⟩∧b<w.heap.size∧w.cell? ⟨b,o+i * 2,none⟩=some (.string ls[i].name)∧w.cell? ⟨b,o+i * 2+1,none⟩=some (.string ls[i].value):=by
 rcases h with rfl | ⟨b,o,rfl,hlt,h⟩
 ·exact absurd hi (by simp)
 ·exact ⟨b,o,rfl,hlt,h i hi⟩
def pD (w:World) (B:Nat) (a:Option Addr) (ls:List zA):Prop:=
 ls=[]∨∃g o cur t,a=some ⟨g,o,none⟩∧B≤g∧w.heap[g]?=some (.cells cur t (0,0))∧bP w g o ls
theorem pD.labs {w:World}{B:Nat}{a:Option Addr}{ls:List zA} (h:pD w B a ls):lD w a ls:=by
 rcases h with h | ⟨g,o,cur,t,rfl,_,hb,h⟩
 ·exact Or.inl h
 ·exact Or.inr ⟨g,o,rfl,aA hb,h⟩
theorem pD.later {w w':World}{B:Nat}{a:Option Addr}{ls:List zA} (h:pD w B a ls) (hb:Below w.heap.size w w'):pD w' B a ls:=by
 rcases h with h | ⟨g,o,cur,t,rfl,hB,hg,h⟩
 ·exact Or.inl h
 ·have hlt:=aA hg;have hk:∀j,w'.cell? ⟨g,j,none⟩=w.cell? ⟨g,j,none⟩:=fun j=>World.cell?_of_block (hb.block g hlt);exact Or.inr ⟨g,o,cur,t,rfl,hB,(hb.block g hlt).trans hg,fun i hi=>by simp only [hk];exact h i hi⟩
theorem pD.mono {w:World}{B B':Nat}{a:Option Addr}{ls:List zA} (h:pD w B a ls) (hB:B'≤B):pD w B' a ls:=by
 rcases h with h | ⟨g,o,cur,t,rfl,hB',hg,h⟩
 ·exact Or.inl h
 ·exact Or.inr ⟨g,o,cur,t,rfl,Nat.le_trans hB hB',hg,h⟩
theorem zL {w:World}{B:Nat}{e:TypeId}{a:Option Addr}{cap:Nat}{l:List zA}
 (h:w.ownsRow B e 2 (.slice a l.length cap) l.length (l.flatMap fun x=>[.string x.name,.string x.value])):pD w B a l:=by
 rcases h.2 with ⟨_,hl⟩ | ⟨g,cap',cur,he,hB,hg,_,_,hsz,htk⟩
 ·exact Or.inl (List.length_eq_zero_iff.1 hl)
 ·simp only [Value.slice.injEq] at he;have hf:∀(l:List zA) i (hi:i<l.length),(l.flatMap fun x=>[Value.string x.name,.string x.value])[i * 2]?=some (.string l[i].name)∧(l.flatMap fun x=>[Value.string x.name,.string x.value])[i * 2+1]?=some (.string l[i].value):=by
   intro l;induction l with
   | nil=>intro i hi;exact absurd hi (by simp)
   | cons x r ih=>
     intro i hi;cases i with
     | zero=>simp
     | succ i=>
       have:=ih i (by simpa using hi);simp only [List.flatMap_cons,List.cons_append,List.nil_append,List.getElem_cons_succ];rw [show (i+1) * 2=i * 2+1+1 by omega,List.getElem?_cons_succ,List.getElem?_cons_succ,List.getElem?_cons_succ,List.getElem?_cons_succ];exact this
  refine Or.inr ⟨g,0,cur,e,he.1,hB,hg,fun i hi=>?_⟩;have h2:∀j,j<l.length * 2→cur[j]?=(l.flatMap fun x=>[Value.string x.name,.string x.value])[j]?:=fun j hj=>by
   rw [←htk,List.getElem?_take_of_lt hj,Array.getElem?_toList]
  rw [cell_of_row w g _ cur _ _ hg,cell_of_row w g _ cur _ _ hg,Nat.zero_add,h2 _ (by omega),h2 _ (by omega)];exact hf l i hi
def tG (s:ByteArray):Nat→Nat→Option (List Nat)
 | 0,_=>some []
 | b+1,p=>if p<s.size then (if Utf8.decode s p=(65533,1) then none else (tG s b (p+(Utf8.decode s p).2)).map ((Utf8.decode s p).1 :: ·)) else some []
def nP (r:Nat):Bool:=decide (r<32) ||(decide (127≤r) &&decide (r≤159))
def SY (l:List Nat):Nat:=if 128<l.length then 43 else if l.any nP=true then 44 else 0
def rJ (s:ByteArray):Nat:=match tG s s.size 0 with
 | none=>42
 | some l=>SY l
def rT (s:ByteArray) (p:Nat) (acc:List Nat):Prop:=acc.length≤p∧∃b,s.size≤p+b∧tG s s.size 0=(tG s b p).map (acc++·)
theorem rT.start (s:ByteArray):rT s 0 []:=⟨Nat.le_refl _,s.size,by omega,by simp⟩
theorem vQ (s:ByteArray) (p:Nat):1≤(Utf8.decode s p).2:=by
 simp only [Utf8.decode];repeat' split
 all_goals simp_all
theorem rT.step {s:ByteArray}{p:Nat}{acc:List Nat} (h:rT s p acc) (hp:p<s.size) (hd:Utf8.decode s p≠(65533,1)):rT s (p+(Utf8.decode s p).2) (acc++[(Utf8.decode s p).1]):=by
 obtain ⟨hl,b,hb,e⟩:=h;have h1:=vQ s p;cases b with
 | zero=>omega
 | succ b=>
   refine ⟨by simp;omega,b,by omega,?_⟩;rw [e,tG,if_pos hp,if_neg hd];cases tG s b (p+(Utf8.decode s p).2)<;>simp
theorem rT.bad {s:ByteArray}{p:Nat}{acc:List Nat} (h:rT s p acc) (hp:p<s.size) (hd:Utf8.decode s p=(65533,1)):rJ s=42:=by
 obtain ⟨hl,b,hb,e⟩:=h;cases b with
 | zero=>omega
 | succ b=>
   rw [tG,if_pos hp,if_pos hd] at e;rw [rJ,e];rfl
theorem rT.done {s:ByteArray}{p:Nat}{acc:List Nat} (h:rT s p acc) (hp:s.size≤p):rJ s=SY acc:=by
 obtain ⟨hl,b,hb,e⟩:=h;have:tG s b p=some []:=by
  cases b with
  | zero=>rfl
  | succ b=>rw [tG,if_neg (by omega)]
 rw [this] at e;rw [rJ,e];simp
theorem KO (s:ByteArray) (p:Nat):Utf8.decode (s.extract p s.size) 0=Utf8.decode s p:=Lib.tail_decode s p 0
def AY (t:ByteArray):Nat×Nat:=if Utf8.decode t 0=(65533,1) then (0,0) else Utf8.decode t 0
def gB (t:ByteArray) (k:Nat):Nat:=(t.get! k).toNat
theorem aDn (t:ByteArray) (k:Nat):gB t k<256:=(t.get! k).toNat_lt
theorem sP (t:ByteArray) (k:Nat) (h:k<t.size):t[k].toNat=gB t k:=by
 have:=get_at t k h;rw [Nat.add_zero] at this;rw [gB,this]
def fS (b0 b1 b2 b3:Nat) (c1 c2 c3:Bool):Nat×Nat:=
 if b0<128 then (b0,1)
 else if (b0 / 32==6&&c1)=true then (if 128≤b0 % 32 * 64+b1 % 64 then (b0 % 32 * 64+b1 % 64,2) else (65533,1))
 else if (b0 / 16==14&&c1&&c2)=true then (if (decide (2048≤b0 % 16 * 4096+b1 % 64 * 64+b2 % 64) &&Utf8.valid ((b0 % 16 * 4096+b1 % 64 * 64+b2 % 64:Nat):Int))=true then (b0 % 16 * 4096+b1 % 64 * 64+b2 % 64,3) else (65533,1))
 else if (b0 / 8==30&&c1&&c2&&c3)=true then (if (decide (65536≤b0 % 8 * 262144+b1 % 64 * 4096+b2 % 64 * 64+b3 % 64) &&Utf8.valid ((b0 % 8 * 262144+b1 % 64 * 4096+b2 % 64 * 64+b3 % 64:Nat):Int))=true then (b0 % 8 * 262144+b1 % 64 * 4096+b2 % 64 * 64+b3 % 64,4) else (65533,1))
 else (65533,1)
def aIi (t:ByteArray) (k:Nat):Bool:=decide (k<t.size) &&gB t k / 64==2
theorem vJ (t:ByteArray) (k:Nat):aIi t k=true ↔ k<t.size∧gB t k / 64=2:=by simp [aIi]
theorem vN (t:ByteArray) (p:Nat):Utf8.decode t p=fS (gB t p) (gB t (p+1)) (gB t (p+2)) (gB t (p+3)) (aIi t (p+1)) (aIi t (p+2)) (aIi t (p+3)):=rfl
def aOx (v:Nat):Bool:=decide (v≤1114111∧¬(55296≤v∧v≤57343))
abbrev okR (v:Nat):Prop:=aOx v=true
theorem aOw {v:Nat} (h:v≤1114111∧¬(55296≤v∧v≤57343)):okR v:=decide_eq_true h
theorem PR {v:Nat} (h:okR v):v≤1114111∧¬(55296≤v∧v≤57343):=of_decide_eq_true h
theorem MT (v:Nat):Utf8.valid (v:Int)=decide (okR v):=by
 unfold Utf8.valid okR aOx;rw [Bool.eq_iff_iff];simp;omega
theorem SU {b0 b1 b2 b3:Nat}{c1 c2 c3:Bool} (h:b0 / 32=6):fS b0 b1 b2 b3 c1 c2 c3=if c1=true∧128≤b0 % 32 * 64+b1 % 64 then (b0 % 32 * 64+b1 % 64,2) else (65533,1):=by
 have h3:(b0 / 16==14)=false:=by simp;omega
 have h4:(b0 / 8==30)=false:=by simp;omega
 unfold fS;rw [if_neg (by omega),h,h3,h4];cases c1<;>simp
theorem EE {b0 b1 b2 b3:Nat}{c1 c2 c3:Bool} (h:b0 / 16=14):
 fS b0 b1 b2 b3 c1 c2 c3=if c1=true∧c2=true∧2048≤(b0 % 16 * 64+b1 % 64) * 64+b2 % 64∧okR ((b0 % 16 * 64+b1 % 64) * 64+b2 % 64) then ((b0 % 16 * 64+b1 % 64) * 64+b2 % 64,3) else (65533,1):=by
 have h2:(b0 / 32==6)=false:=by simp;omega
 have h4:(b0 / 8==30)=false:=by simp;omega
 have e:b0 % 16 * 4096+b1 % 64 * 64+b2 % 64=(b0 % 16 * 64+b1 % 64) * 64+b2 % 64:=by omega
 unfold fS;rw [if_neg (by omega),h2,h,h4,e,MT];cases c1<;>cases c2<;>simp [okR]
theorem KJ {b0 b1 b2 b3:Nat}{c1 c2 c3:Bool} (h:b0 / 8=30):
 fS b0 b1 b2 b3 c1 c2 c3=if c1=true∧c2=true∧c3=true∧65536≤((b0 % 8 * 64+b1 % 64) * 64+b2 % 64) * 64+b3 % 64∧okR (((b0 % 8 * 64+b1 % 64) * 64+b2 % 64) * 64+b3 % 64) then (((b0 % 8 * 64+b1 % 64) * 64+b2 % 64) * 64+b3 % 64,4) else (65533,1):=by
 have h2:(b0 / 32==6)=false:=by simp;omega
 have h3:(b0 / 16==14)=false:=by simp;omega
 have e:b0 % 8 * 262144+b1 % 64 * 4096+b2 % 64 * 64+b3 % 64=((b0 % 8 * 64+b1 % 64) * 64+b2 % 64) * 64+b3 % 64:=by omega
 unfold fS;rw [if_neg (by omega),h2,h3,h,e];simp only [MT];cases c1<;>cases c2<;>cases c3<;>simp [okR]
theorem uq {b0 b1 b2 b3:Nat}{c1 c2 c3:Bool} (h:b0<128):fS b0 b1 b2 b3 c1 c2 c3=(b0,1):=by unfold fS;rw [if_pos h]
theorem KK {b0 b1 b2 b3:Nat}{c1 c2 c3:Bool} (h0:128≤b0) (h2:b0 / 32≠6) (h3:b0 / 16≠14) (h4:b0 / 8≠30):fS b0 b1 b2 b3 c1 c2 c3=(65533,1):=by
 have h2:(b0 / 32==6)=false:=by simp [h2]
 have h3:(b0 / 16==14)=false:=by simp [h3]
 have h4:(b0 / 8==30)=false:=by simp [h4]
 unfold fS;rw [if_neg (by omega),h2,h3,h4];simp
theorem KN {b0 b1 b2 b3:Nat}{c1 c2 c3:Bool}:fS b0 b1 b2 b3 c1 c2 c3=(65533,1)∨((fS b0 b1 b2 b3 c1 c2 c3).1≤1114111∧((fS b0 b1 b2 b3 c1 c2 c3).2=1∨(fS b0 b1 b2 b3 c1 c2 c3).2=2∧c1=true∨(fS b0 b1 b2 b3 c1 c2 c3).2=3∧c2=true∨(fS b0 b1 b2 b3 c1 c2 c3).2=4∧c3=true)):=by
 by_cases h1:b0<128
 ·rw [uq h1];right;exact ⟨by simp;omega,Or.inl rfl⟩
 by_cases h2:b0 / 32=6
 ·rw [SU h2];split
  ·rename_i h;right;exact ⟨by simp;omega,Or.inr (Or.inl ⟨rfl,h.1⟩)⟩
  ·exact Or.inl rfl
 by_cases h3:b0 / 16=14
 ·rw [EE h3];split
  ·rename_i h;right;exact ⟨(PR h.2.2.2).1,Or.inr (Or.inr (Or.inl ⟨rfl,h.2.1⟩))⟩
  ·exact Or.inl rfl
 by_cases h4:b0 / 8=30
 ·rw [KJ h4];split
  ·rename_i h;right;exact ⟨(PR h.2.2.2.2).1,Or.inr (Or.inr (Or.inr ⟨rfl,h.2.2.1⟩))⟩
  ·exact Or.inl rfl
 ·rw [KK (by omega) h2 h3 h4];exact Or.inl rfl
theorem AE (s:ByteArray) (p:Nat) (hp:p<s.size) (h:Utf8.decode s p≠(65533,1)):p+(Utf8.decode s p).2≤s.size:=by
 rw [vN] at h ⊢;rcases KN with h' | ⟨_,h' | ⟨e,h'⟩ | ⟨e,h'⟩ | ⟨e,h'⟩⟩
 ·exact absurd h' h
 ·rw [h'];omega
 ·rw [e];have:=((vJ _ _).1 h').1;omega
 ·rw [e];have:=((vJ _ _).1 h').1;omega
 ·rw [e];have:=((vJ _ _).1 h').1;omega
theorem gS (s:ByteArray) (p:Nat):(Utf8.decode s p).1≤1114111∧(Utf8.decode s p).2≤4:=by
 rw [vN];rcases KN with h' | ⟨h,h' | ⟨e,h'⟩ | ⟨e,h'⟩ | ⟨e,h'⟩⟩
 ·rw [h'];exact ⟨by simp,by simp⟩
 ·exact ⟨h,by omega⟩
 ·exact ⟨h,by omega⟩
 ·exact ⟨h,by omega⟩
 ·exact ⟨h,by omega⟩
theorem aMi (t:ByteArray) (h:gB t 0<128):AY t=(gB t 0,1):=by
 rw [AY,vN,uq h,if_neg];simp only [Prod.mk.injEq,and_true];omega
theorem ZR {t:ByteArray}{C D:Prop} [Decidable C] [Decidable D]{v n:Nat} (h:Utf8.decode t 0=if C then (v,n) else (65533,1)) (hn:n≠1) (hC:C ↔ D):AY t=if D then (v,n) else (0,0):=by
 unfold AY;rw [h];by_cases c:C
 ·rw [if_pos c,if_pos (hC.1 c),if_neg (by simp;exact fun _=>hn)]
 ·rw [if_neg c,if_neg (fun h=>c (hC.2 h)),if_pos rfl]
theorem aMj (t:ByteArray) (h:gB t 0 / 32=6):
 AY t=if 2≤t.size∧gB t 1 / 64=2∧128≤gB t 0 % 32 * 64+gB t 1 % 64 then (gB t 0 % 32 * 64+gB t 1 % 64,2) else (0,0):=by
 refine ZR ((vN t 0).trans (SU h)) (by omega) ?_;rw [Nat.zero_add,vJ];constructor
 ·rintro ⟨⟨h1,h2⟩,h3⟩;exact ⟨h1,h2,h3⟩
 ·rintro ⟨h1,h2,h3⟩;exact ⟨⟨h1,h2⟩,h3⟩
theorem aFj (t:ByteArray) (h:gB t 0 / 16=14):
 AY t=if 3≤t.size∧gB t 1 / 64=2∧gB t 2 / 64=2∧2048≤(gB t 0 % 16 * 64+gB t 1 % 64) * 64+gB t 2 % 64∧okR ((gB t 0 % 16 * 64+gB t 1 % 64) * 64+gB t 2 % 64) then ((gB t 0 % 16 * 64+gB t 1 % 64) * 64+gB t 2 % 64,3) else (0,0):=by
 refine ZR ((vN t 0).trans (EE h)) (by omega) ?_;rw [Nat.zero_add,Nat.zero_add,vJ,vJ];constructor
 ·rintro ⟨⟨_,h2⟩,⟨h1,h3⟩,h4⟩;exact ⟨h1,h2,h3,h4⟩
 ·rintro ⟨h1,h2,h3,h4⟩;exact ⟨⟨by omega,h2⟩,⟨h1,h3⟩,h4⟩
theorem aJf (t:ByteArray) (h:gB t 0 / 8=30):
 AY t=if 4≤t.size∧gB t 1 / 64=2∧gB t 2 / 64=2∧gB t 3 / 64=2∧65536≤((gB t 0 % 8 * 64+gB t 1 % 64) * 64+gB t 2 % 64) * 64+gB t 3 % 64∧okR (((gB t 0 % 8 * 64+gB t 1 % 64) * 64+gB t 2 % 64) * 64+gB t 3 % 64) then (((gB t 0 % 8 * 64+gB t 1 % 64) * 64+gB t 2 % 64) * 64+gB t 3 % 64,4) else (0,0):=by
 refine ZR ((vN t 0).trans (KJ h)) (by omega) ?_;rw [Nat.zero_add,Nat.zero_add,Nat.zero_add,vJ,vJ,vJ];constructor
 ·rintro ⟨⟨_,h2⟩,⟨_,h3⟩,⟨h1,h4⟩,h5⟩;exact ⟨h1,h2,h3,h4,h5⟩
 ·rintro ⟨h1,h2,h3,h4,h5⟩;exact ⟨⟨by omega,h2⟩,⟨by omega,h3⟩,⟨h1,h4⟩,h5⟩
theorem aJg (t:ByteArray) (h0:128≤gB t 0) (h2:gB t 0 / 32≠6) (h3:gB t 0 / 16≠14) (h4:gB t 0 / 8≠30):AY t=(0,0):=by
 rw [AY,vN,KK h0 h2 h3 h4,if_pos rfl]
theorem aOo (s:ByteArray) (p:Nat):AY (s.extract p s.size)=if Utf8.decode s p=(65533,1) then (0,0) else Utf8.decode s p:=by rw [AY,KO]
abbrev cS (c:Nat):Prop:=(65≤c∧c≤90)∨(97≤c∧c≤122)∨c=95
abbrev EH (c:Nat):Prop:=48≤c∧c≤57
abbrev iU (s:ByteArray) (i:Nat):Prop:=cS (gB s i)∨(EH (gB s i)∧0<i)
abbrev PJ (s:ByteArray):Prop:=1≤s.size∧s.size≤64∧∀i,i<s.size→iU s i
def cZ (s:ByteArray):Bool:=decide (PJ s)
def zR (l:zA):Nat:=if cZ l.name=true then rJ l.value else 41
def jC:List zA→Nat→Option (Nat×Nat)
 | [],_=>none
 | l :: r,i=>if zR l=0 then jC r (i+1) else some (zR l,i)
def iO (x l:zA):Bool:=x.name.toList==l.name.toList
def uD:List zA→List zA→Nat→Option Nat
 | _,[],_=>none
 | seen,l :: r,i=>if seen.any (fun x=>iO x l)=true then some i else uD (seen++[l]) r (i+1)
def FZ:ByteArray:=⟨#[95,95,110,97,109,101,95,95]⟩
def oK (l:zA):Bool:=l.name.toList==FZ.toList
def sO (l:zA):Bool:=l.value.toList==ByteArray.empty.toList
def zJ (x y:zA):Bool:=Op.bytesLess x.name.toList y.name.toList
def uH:List zA→ByteArray
 | []=>ByteArray.empty
 | l :: r=>if oK l=true then l.value else uH r
def yL (ls:List zA):List zA:=ls.filter (fun l=>!sO l)
def dR (ls:List zA):Bool:=ls.any (fun l=>!sO l&&oK l)
def fR (l:zA):List zA→Nat
 | []=>0
 | x :: r=>if zJ x l=true then fR l r+1 else 0
def oG (l:zA) (out:List zA):List zA:=out.take (fR l out)++l :: out.drop (fR l out)
def jF (out:List zA):List zA→List zA
 | []=>out
 | l :: r=>jF (if sO l=true then out else oG l out) r
def iB (ls:List zA):List zA×Nat×Nat:=
 if 16<ls.length then ([],40,0) else match jC ls 0 with
 | some (c,i)=>([],c,i)
 | none=>match uD [] ls 0 with
   | some i=>([],45,i)
   | none=>if dR ls=true then (jF [] ls,0,0) else ([],46,0)
theorem aCp (l:zA):∀out,fR l out≤out.length
 | []=>Nat.le_refl _
 | x :: r=>by
   have:=aCp l r;rw [fR];split
   ·simp;omega
   ·simp
theorem aGp (l:zA) (out:List zA) (k:Nat) (hk:k<out.length):fR l (out.drop k)=if zJ out[k] l=true then fR l (out.drop (k+1))+1 else 0:=by
 rw [List.drop_eq_getElem_cons hk,fR]
theorem lI (l:zA) (out:List zA):(oG l out).length=out.length+1:=by
 have:=aCp l out;simp [oG];omega
theorem aFb (l:zA) (out:List zA):(oG l out).Perm (l :: out):=by
 unfold oG;refine List.perm_middle.trans ?_;rw [List.take_append_drop]
theorem rO:∀(ls out:List zA),(jF out ls).Perm (out++yL ls)
 | [],out=>by simp [jF,yL]
 | l :: r,out=>by
   rw [jF,yL,List.filter_cons];by_cases h:sO l=true
   ·rw [if_pos h,if_neg (by simp [h])];exact rO r out
   ·rw [if_neg h,if_pos (by simpa using h)];refine (rO r _).trans ?_;refine ((aFb l out).append_right _).trans ?_;exact (List.perm_middle (l₁:=out) (a:=l) (l₂:=yL r)).symm
theorem LH (ls:List zA):(yL ls).length≤ls.length:=List.length_filter_le _ _
theorem FA (ls:List zA):(jF [] ls).length=(yL ls).length:=by
 have:=(rO ls []).length_eq;simpa using this
def Le (x y:zA):Prop:=zJ y x=false
theorem MA (l:zA):∀(out:List zA),∀x∈out.take (fR l out),zJ x l=true
 | [],x,h=>by simp at h
 | y :: r,x,h=>by
   rw [fR] at h;split at h
   ·rename_i hy;rw [List.take_succ_cons,List.mem_cons] at h;rcases h with rfl | h
    ·exact hy
    ·exact MA l r x h
   ·simp at h
theorem MC (l:zA):∀(out:List zA),out.Pairwise Le→∀x∈out.drop (fR l out),zJ x l=false
 | [],_,x,h=>by simp at h
 | y :: r,hp,x,h=>by
   rw [fR] at h;rw [List.pairwise_cons] at hp;split at h
   ·rw [List.drop_succ_cons] at h;exact MC l r hp.2 x h
   ·rename_i hy;rw [List.drop_zero,List.mem_cons] at h;have hy':zJ y l=false:=by simpa using hy
    rcases h with rfl | h
    ·exact hy'
    ·have h1:=hp.1 x h;unfold Le at h1;cases hx:zJ x l
     ·rfl
     ·exfalso;by_cases e:y.name.toList=l.name.toList
      ·unfold zJ at h1 hx;rw [e] at h1;rw [h1] at hx;exact absurd hx (by simp)
      ·have h2:zJ l y=true:=cI _ _ hy' e;have h3:zJ x y=true:=eG _ _ _ hx h2;rw [h3] at h1;exact absurd h1 (by simp)
theorem FP {x y z:zA} (h1:Le x y) (h2:Le y z):Le x z:=by
 unfold Le at *;cases hx:zJ z x
 ·rfl
 ·exfalso;by_cases e:y.name.toList=x.name.toList
  ·unfold zJ at h2 hx;rw [e] at h2;rw [h2] at hx;exact absurd hx (by simp)
  ·have h3:zJ x y=true:=cI _ _ h1 e;have h4:zJ z y=true:=eG _ _ _ hx h3;rw [h4] at h2;exact absurd h2 (by simp)
theorem UM (l:zA) (out:List zA) (h:out.Pairwise Le):(oG l out).Pairwise Le:=by
 unfold oG;have hh:=MA l out;have ht:=MC l out h;rw [List.pairwise_append];refine ⟨h.sublist (List.take_sublist _ _),?_,?_⟩
 ·rw [List.pairwise_cons];exact ⟨fun x hx=>ht x hx,h.sublist (List.drop_sublist _ _)⟩
 ·intro a ha b hb;have h1:Le a l:=zK (hh a ha);rw [List.mem_cons] at hb;rcases hb with rfl | hb
  ·exact h1
  ·exact FP h1 (ht b hb)
theorem dU:∀(ls out:List zA),out.Pairwise Le→(jF out ls).Pairwise Le
 | [],out,h=>h
 | l :: r,out,h=>by
   rw [jF];refine dU r _ ?_;split
   ·exact h
   ·exact UM l out h
def CD (ls:List zA):Prop:=ls.Pairwise (fun x y=>x.name≠y.name)
theorem aHe (x l:zA):iO x l=true ↔ x.name=l.name:=by
 unfold iO;rw [beq_iff_eq];exact ⟨fun h=>toList_inj h,fun h=>by rw [h]⟩
theorem pW:∀(r seen:List zA) (i:Nat),CD seen→uD seen r i=none→CD (seen++r)
 | [],seen,_,h,_=>by simpa using h
 | l :: r,seen,i,h,hn=>by
   rw [uD] at hn;split at hn
   ·exact absurd hn (by simp)
   ·rename_i hs;have:CD (seen++[l]):=by
     unfold CD;rw [List.pairwise_append];refine ⟨h,List.pairwise_singleton _ _,fun a ha b hb=>?_⟩;rw [List.mem_singleton] at hb;subst hb;intro e;apply hs;rw [List.any_eq_true];exact ⟨a,ha,(aHe _ _).2 e⟩
    have:=pW r _ _ this hn;simpa using this
theorem aMr (ls:List zA) (h:uD [] ls 0=none):CD ls:=by
 have:=pW ls [] 0 (by exact List.Pairwise.nil) h;simpa using this
theorem aMq {ls:List zA} (h:CD ls){x y:zA} (hx:x∈ls) (hy:y∈ls) (e:x.name=y.name):x=y:=by
 induction ls with
 | nil=>exact absurd hx (by simp)
 | cons l r ih=>
   unfold CD at h;rw [List.pairwise_cons] at h;rw [List.mem_cons] at hx hy;rcases hx with rfl | hx
   ·rcases hy with rfl | hy
    ·rfl
    ·exact absurd e (h.1 y hy)
   ·rcases hy with rfl | hy
    ·exact absurd e.symm (h.1 x hx)
    ·exact ih h.2 hx hy
theorem aHg {ls out:List zA} (h:CD ls) (hp:out.Perm (yL ls)) (hs:out.Pairwise Le):out=jF [] ls:=by
 have hp2:=(rO ls []).trans (by rw [List.nil_append]);refine List.Perm.eq_of_pairwise (le:=Le) ?_ hs (dU ls [] List.Pairwise.nil) (hp.trans hp2.symm);intro a b ha hb h1 h2;have ha':a∈ls:=(List.mem_filter.1 (hp.mem_iff.1 ha)).1;have hb':b∈ls:=(List.mem_filter.1 (hp2.mem_iff.1 hb)).1;refine aMq h ha' hb' ?_;by_cases e:a.name=b.name
 ·exact e
 ·have h3:zJ b a=true:=cI _ _ h2 (fun e'=>e (toList_inj e'));unfold Le at h1;rw [h3] at h1;exact absurd h1 (by simp)
theorem VL:∀(ls:List zA),CD ls→((uH ls).toList==ByteArray.empty.toList)=!dR ls
 | [],_=>by simp [uH,dR]
 | l :: r,h=>by
   unfold CD at h;rw [List.pairwise_cons] at h;rw [uH,dR,List.any_cons];by_cases hm:oK l=true
   ·rw [if_pos hm,hm,Bool.and_true];have hr:(r.any fun l=>!sO l&&oK l)=false:=by
     rw [List.any_eq_false];intro x hx hc;rw [Bool.and_eq_true] at hc;have e1:l.name=FZ:=toList_inj (by simpa [oK] using hm);have e2:x.name=FZ:=toList_inj (by simpa [oK] using hc.2);exact h.1 x hx (by rw [e1,e2])
    rw [hr,Bool.or_false,Bool.not_not];rfl
   ·rw [if_neg hm];have hm':oK l=false:=by simpa using hm
    rw [hm',Bool.and_false,Bool.false_or];exact VL r h.2
theorem DW {ls:List zA} (h:16<ls.length):iB ls=([],40,0):=by unfold iB;rw [if_pos h]
theorem gT {ls:List zA} (h:¬16<ls.length){c i:Nat} (hb:jC ls 0=some (c,i)):iB ls=([],c,i):=by unfold iB;rw [if_neg h,hb]
theorem wZ {ls:List zA} (h:¬16<ls.length) (hb:jC ls 0=none){i:Nat} (ht:uD [] ls 0=some i):iB ls=([],45,i):=by unfold iB;rw [if_neg h,hb,ht]
theorem JZ {ls:List zA} (h:¬16<ls.length) (hb:jC ls 0=none) (ht:uD [] ls 0=none) (hm:dR ls=false):iB ls=([],46,0):=by
 unfold iB;rw [if_neg h,hb,ht];simp [hm]
theorem SD {ls:List zA} (h:¬16<ls.length) (hb:jC ls 0=none) (ht:uD [] ls 0=none) (hm:dR ls=true):iB ls=(jF [] ls,0,0):=by
 unfold iB;rw [if_neg h,hb,ht];simp [hm]
theorem cU (ls:List zA) (k:Nat) (hk:k<ls.length):jC (ls.drop k) k=if zR ls[k]=0 then jC (ls.drop (k+1)) (k+1) else some (zR ls[k],k):=by
 rw [List.drop_eq_getElem_cons hk,jC]
theorem qW (ls:List zA) (k:Nat) (hk:k<ls.length):uD (ls.take k) (ls.drop k) k=if (ls.take k).any (fun x=>iO x ls[k])=true then some k else uD (ls.take (k+1)) (ls.drop (k+1)) (k+1):=by
 rw [List.drop_eq_getElem_cons hk,uD,List.take_succ_eq_append_getElem hk]
theorem LS (ls:List zA) (k:Nat) (hk:k<ls.length):uH (ls.drop k)=if oK ls[k]=true then ls[k].value else uH (ls.drop (k+1)):=by
 rw [List.drop_eq_getElem_cons hk,uH]
theorem UK (out ls:List zA) (k:Nat) (hk:k<ls.length):jF out (ls.drop k)=jF (if sO ls[k]=true then out else oG ls[k] out) (ls.drop (k+1)):=by
 rw [List.drop_eq_getElem_cons hk,jF]
theorem aFw (ls:List zA) (k:Nat) (hk:k<ls.length):dR (ls.take (k+1))=(dR (ls.take k) ||(!sO ls[k] &&oK ls[k])):=by
 rw [List.take_succ_eq_append_getElem hk,dR,List.any_append];simp [dR]
theorem ZM (ls:List zA) (k:Nat) (hk:k<ls.length):yL (ls.take (k+1))=yL (ls.take k)++if sO ls[k]=true then [] else [ls[k]]:=by
 rw [List.take_succ_eq_append_getElem hk,yL,List.filter_append,yL];congr 1;by_cases h:sO ls[k]=true<;>simp [h]
theorem eU (r:Nat) (w:World) (hr:r≤1114111):Calls Tryz.prog 246 #[.int .i32 (r:Nat)] w fun e w'=>e=.returned (.bool (nP r))∧w'=w:=by
 by_cases h1:r<32
 ·have E:Hid (nP r=true):=by show _=_;simp [nP,h1]
  go_enter Tryz.func246,Tryz.ntmps246;go_wp2;go_ret;exact ⟨jA (by rw [E.out]),rfl⟩
 by_cases h2:127≤r
 ·by_cases h3:r≤159
  ·have E:Hid (nP r=true):=by show _=_;simp [nP,h2,h3]
   go_enter Tryz.func246,Tryz.ntmps246;go_wp2;go_ret;exact ⟨jA (by rw [E.out];simp;omega),rfl⟩
  ·have E:Hid (nP r=false):=by show _=_;simp [nP,h1,h3]
   go_enter Tryz.func246,Tryz.ntmps246;go_wp2;go_ret;exact ⟨jA (by rw [E.out];simp;omega),rfl⟩
 ·have E:Hid (nP r=false):=by show _=_;simp [nP,h1,h2]
  go_enter Tryz.func246,Tryz.ntmps246;go_wp2;go_ret;exact ⟨jA (by rw [E.out];simp;omega),rfl⟩
abbrev wF (w:World):Prop:=Lib.Utf8Tabs 2 3 w
theorem wF.later {w w':World} (h:wF w) (hb:Below w.heap.size w w'):wF w':=Utf8Tabs_below h hb
theorem XR (s:ByteArray) (p:Nat) (w:World) (hp:p<s.size) (hT:wF w):
 Calls Tryz.prog 245 #[.string s,.int .i64 (p:Nat)] w fun e w'=>e=.returned (.int .i64 ((Utf8.decode s p).2:Nat))∧Below w.heap.size w w':=by
 have hz:(s.extract p s.size).size=s.size - p:=by simp
 have e:Lib.decodeGo (s.extract p s.size)=Utf8.decode s p:=by
  rw [Lib.decodeGo,if_neg (by omega),KO]
 have hc:∀W,wF W→Calls Tryz.prog 263 #[.string (s.extract p s.size)] W fun e w'=>e=.returned (.tuple #[.int .i32 (Utf8.decode s p).1,.int .i64 (Utf8.decode s p).2])∧Below W.heap.size W w':=fun W hW=>by
  have:=Tryz.utf8_DecodeRuneInString (s.extract p s.size) W hW;rw [e] at this;exact this
 generalize (Utf8.decode s p).1=R at *;generalize (Utf8.decode s p).2=N at *;have HC:Hid _:=hc;have HT:Hid (wF w):=hT;clear hc hT e hz;go_enter Tryz.func245,Tryz.ntmps245;go_wp2_with fail;refine (HC.out _ HT.out).mono ?_;rintro e w1 ⟨rfl,hb1⟩;have HB:Hid _:=hb1;clear hb1;go_wp2;go_ret;exact ⟨rfl,HB.out⟩
theorem FV {w:World}{g:Nat}{x:Obj} (h:w.heap[g]?=some x):g<w.heap.size:=by
 rcases Nat.lt_or_ge g w.heap.size with hlt | hge
 ·exact hlt
 ·rw [Array.getElem?_eq_none hge] at h;exact absurd h (by simp)
def sI (W:World) (B:Nat) (s:ByteArray) (p:Nat):Prop:=W.heap[B]?=some (.stringIter s p)
def bJ (W:World) (B:Nat) (s:ByteArray) (p:Nat):World:={ W with heap:=W.heap.setIfInBounds B (.stringIter s p) }
theorem aJv {P:Program} (W:World) (B:Nat) (s:ByteArray) (pos:Nat) (ty:TypeId) (hB:sI W B s pos) (h:pos<s.size):
 (Instr.next (.pointer (some ⟨B,0,none⟩)) true ty).run P W=.ok (.tuple #[.bool true,.int .i64 pos,.int .i32 (Utf8.decode s pos).1]) (bJ W B s (pos+(Utf8.decode s pos).2)):=by
 unfold sI at hB;simp only [Instr.next,getObj,setObj,Sem.run_bind,Sem.run,hB,Result.andThen,h,if_true];simp [goInt,bJ]
theorem aJw {P:Program} (W:World) (B:Nat) (s:ByteArray) (pos:Nat) (ty:TypeId) (hB:sI W B s pos) (h:¬pos<s.size):
 (Instr.next (.pointer (some ⟨B,0,none⟩)) true ty).run P W=.ok (.tuple #[.bool false]) W:=by
 unfold sI at hB;simp [Instr.next,getObj,Sem.run,hB,h]
theorem sI.set {W:World}{B:Nat}{s:ByteArray}{p:Nat} (h:sI W B s p) (q:Nat):sI (bJ W B s q) B s q:=by
 have:=FV h;unfold sI bJ;simp [this]
theorem sI.later {W W':World}{B:Nat}{s:ByteArray}{p:Nat} (h:sI W B s p) (hb:Below W.heap.size W W'):sI W' B s p:=(hb.block B (FV h)).trans h
theorem IY {w W:World}{B C:Nat} (h:Below C w W) (hB:C≤B) (s:ByteArray) (q:Nat):Below C w (bJ W B s q):=
 h.trans ⟨rfl,rfl,rfl,by simp [bJ],fun k hk=>by simp only [bJ];rw [Array.getElem?_setIfInBounds_ne (by omega)]⟩
theorem ZG {C D:Prop} [Decidable C] [Decidable D]{α:Type}{x y:α} (h:C ↔ D):(if C then x else y)=if D then x else y:=by
 by_cases c:C
 ·rw [if_pos c,if_pos (h.1 c)]
 ·rw [if_neg c,if_neg (fun d=>c (h.2 d))]
theorem gR {a b c d:Int} (h1:a=c) (h2:b=d):Ending.returned (.tuple #[.int .i64 a,.int .i64 b])=.returned (.tuple #[.int .i64 c,.int .i64 d]):=by rw [h1,h2]
def oO (t:ByteArray) (v:Nat):Nat→Nat
 | 0=>v
 | j+1=>oO t v j * 64+gB t (j+1) % 64
def fL (t:ByteArray) (n v least:Nat):Nat×Nat:=
 if n≤t.size∧(∀k,k<n→1≤k→gB t k / 64=2)∧least≤oO t v (n - 1)∧okR (oO t v (n - 1)) then (oO t v (n - 1),n) else (0,0)
theorem aPu (t:ByteArray) (h:gB t 0 / 32=6):AY t=fL t 2 (gB t 0 % 32) 128:=by
 have h0:=aDn t 0;rw [aMj t h,fL];have e:oO t (gB t 0 % 32) (2 - 1)=gB t 0 % 32 * 64+gB t 1 % 64:=rfl;rw [e];refine ZG ?_;constructor
 ·rintro ⟨h1,h2,h3⟩;refine ⟨h1,fun k _ _=>?_,h3,by unfold okR aOx;simp;omega⟩;have:k=1:=by omega
  subst this;exact h2
 ·rintro ⟨h1,h2,h3,_⟩;exact ⟨h1,h2 1 (by omega) (by omega),h3⟩
theorem aPv (t:ByteArray) (h:gB t 0 / 16=14):AY t=fL t 3 (gB t 0 % 16) 2048:=by
 rw [aFj t h,fL];have e:oO t (gB t 0 % 16) (3 - 1)=(gB t 0 % 16 * 64+gB t 1 % 64) * 64+gB t 2 % 64:=rfl;rw [e];refine ZG ?_;constructor
 ·rintro ⟨h1,h2,h3,h4,h5⟩;refine ⟨h1,fun k _ _=>?_,h4,h5⟩;have:k=1∨k=2:=by omega
  rcases this with rfl | rfl
  ·exact h2
  ·exact h3
 ·rintro ⟨h1,h2,h3,h4⟩;exact ⟨h1,h2 1 (by omega) (by omega),h2 2 (by omega) (by omega),h3,h4⟩
theorem aPw (t:ByteArray) (h:gB t 0 / 8=30):AY t=fL t 4 (gB t 0 % 8) 65536:=by
 rw [aJf t h,fL];have e:oO t (gB t 0 % 8) (4 - 1)=((gB t 0 % 8 * 64+gB t 1 % 64) * 64+gB t 2 % 64) * 64+gB t 3 % 64:=rfl;rw [e];refine ZG ?_;constructor
 ·rintro ⟨h1,h2,h3,h4,h5,h6⟩;refine ⟨h1,fun k _ _=>?_,h5,h6⟩;have:k=1∨k=2∨k=3:=by omega
  rcases this with rfl | rfl | rfl
  ·exact h2
  ·exact h3
  ·exact h4
 ·rintro ⟨h1,h2,h3,h4⟩;exact ⟨h1,h2 1 (by omega) (by omega),h2 2 (by omega) (by omega),h2 3 (by omega) (by omega),h3,h4⟩
theorem SA (t:ByteArray) (v:Nat):∀j,oO t v j<(v+1) * 64 ^ j
 | 0=>by simp [oO]
 | j+1=>by
   have:=SA t v j;rw [oO,Nat.pow_succ,←Nat.mul_assoc];omega
theorem QF (t:ByteArray) (w:World) (h0:0<t.size) (hs:t.size≤maxLen):
 Calls Tryz.prog 181 #[.string t] w fun e w'=>e=.returned (.tuple #[.int .i64 ((AY t).1:Nat),.int .i64 ((AY t).2:Nat)])∧w'=w:=by
 unfold maxLen at hs;have hU:t[0].toNat<256:=t[0].toNat_lt;have HE0:Hid _:=sP t 0 h0;by_cases h1:t[0].toNat<128
 ·have E:Hid (AY t=(t[0].toNat,1)):=by show _=_;rw [HE0.out];exact aMi t (by rw [←HE0.out];exact h1)
  rw [E.out];go_enter Tryz.func181,Tryz.ntmps181;go_wp2;go_ret2;exact ⟨rfl,rfl⟩
 have hcs:(((t[0].toNat:Int) / 32==6)=true∧AY t=fL t 2 (t[0].toNat % 32) 128)∨((t[0].toNat:Int) / 32==6)=false∧((((t[0].toNat:Int) / 16==14)=true∧AY t=fL t 3 (t[0].toNat % 16) 2048)∨((t[0].toNat:Int) / 16==14)=false∧((((t[0].toNat:Int) / 8==30)=true∧AY t=fL t 4 (t[0].toNat % 8) 65536)∨((t[0].toNat:Int) / 8==30)=false∧AY t=(0,0))):=by
  by_cases h2:t[0].toNat / 32=6
  ·exact Or.inl ⟨by simp;omega,by rw [HE0.out];exact aPu t (by rw [←HE0.out];exact h2)⟩
  refine Or.inr ⟨by simp;omega,?_⟩;by_cases h3:t[0].toNat / 16=14
  ·exact Or.inl ⟨by simp;omega,by rw [HE0.out];exact aPv t (by rw [←HE0.out];exact h3)⟩
  refine Or.inr ⟨by simp;omega,?_⟩;by_cases h4:t[0].toNat / 8=30
  ·exact Or.inl ⟨by simp;omega,by rw [HE0.out];exact aPw t (by rw [←HE0.out];exact h4)⟩
  ·exact Or.inr ⟨by simp;omega,by rw [HE0.out] at h1 h2 h3 h4;exact aJg t (by omega) h2 h3 h4⟩
 have HCS:=iA hcs;clear hcs;go_enter Tryz.func181,Tryz.ntmps181;go_upto_block 0 with fail;go_cut [5,6,7] (fun sn sv sl wx=>∃n v lo:Nat,sn=.int .i64 n∧sv=.int .i64 v∧sl=.int .i64 lo∧2≤n∧n≤4∧(v+1) * 64 ^ (n - 1)≤8388608∧AY t=fL t n v lo∧lo≤65536∧wx=w)
 case first=>
  rcases HCS.out with ⟨b1,E⟩ | ⟨b1,⟨b2,E⟩ | ⟨b2,⟨b3,E⟩ | ⟨b3,E⟩⟩⟩
  all_goals
   have E:=iA E;clear HCS
  ·go_wp2;go_meet;exact ⟨2,t[0].toNat % 32,128,rfl,by go_num,rfl,by omega,by omega,by omega,E.out,by omega,rfl⟩
  ·go_wp2;go_meet;exact ⟨3,t[0].toNat % 16,2048,rfl,by go_num,rfl,by omega,by omega,by omega,E.out,by omega,rfl⟩
  ·go_wp2;go_meet;exact ⟨4,t[0].toNat % 8,65536,rfl,by go_num,rfl,by omega,by omega,by omega,E.out,by omega,rfl⟩
  ·go_wp2;go_ret2;exact ⟨gR (by simp [E.out]) (by simp [E.out]),rfl⟩
 clear HCS;obtain ⟨n,v,lo,rfl,rfl,rfl,hn2,hn4,hv,E0,hlo,rfl⟩:=hcut;have E:=iA E0;have HV0:=iA hv;clear E0 hv;by_cases hz:t.size<n
 ·have E2:Hid (AY t=(0,0)):=by show _=_;rw [E.out,fL,if_neg (fun h=>by have:=h.1;omega)]
  go_wp2;go_ret2;exact ⟨gR (by simp [E2.out]) (by simp [E2.out]),rfl⟩
 go_wp2;go_loop [6,8] (fun sv i=>∃j V:Nat,1≤j∧j≤n∧i=.int .i64 j∧sv=.int .i64 V∧V<8388608∧Hid (V=oO t v (j - 1)∧∀k,k<j→1≤k→gB t k / 64=2)) (fun _ i=>n - (intOf i).toNat)
 case atStart=>exact ⟨1,v,by omega,by omega,rfl,rfl,by have h1:=HV0.out;have h3:=Nat.le_mul_of_pos_right (v+1) (show 0<64 ^ (n - 1) from Nat.pow_pos (by omega));omega,rfl,fun k hk h=>absurd h (by omega)⟩
 case round=>
  obtain ⟨j,V,hj1,hj,rfl,rfl,hV,HR⟩:=hrel;by_cases hlt:j<n
  ·have hjs:j<t.size:=by omega
   have hU2:t[j].toNat<256:=t[j].toNat_lt;have HE:Hid _:=sP t j hjs;by_cases hc:t[j].toNat / 64=2
   ·have hcb:((t[j].toNat:Int) / 64 != 2)=false:=by simp;omega
    have HB:Hid (oO t v j=V * 64+t[j].toNat % 64):=by
     show _=_;obtain ⟨m,rfl⟩:∃m,j=m+1:=⟨j - 1,by omega⟩
     rw [oO,HE.out,HR.out.1];rfl
    go_wp2;refine ⟨⟨j+1,V * 64+t[j].toNat % 64,by omega,by omega,by go_num,by go_num,?_,HB.out.symm,?_⟩,by simp [intOf];omega⟩
    ·have h1:=SA t v j;rw [HB.out] at h1;have h4:(v+1) * 64 ^ j≤(v+1) * 64 ^ (n - 1):=Nat.mul_le_mul (Nat.le_refl _) (Nat.pow_le_pow_right (by omega) (by omega));have:=HV0.out;omega
    ·intro k hk hk1;by_cases e:k=j
     ·subst e;rw [←HE.out];exact hc
     ·exact HR.out.2 k (by omega) hk1
   ·have hcb:((t[j].toNat:Int) / 64 != 2)=true:=by simp;omega
    have E2:Hid (AY t=(0,0)):=by show _=_;rw [E.out,fL,if_neg (fun h=>hc (by rw [HE.out];exact h.2.1 j hlt hj1))]
    go_wp2;go_ret2;exact ⟨gR (by simp [E2.out]) (by simp [E2.out]),rfl⟩
  ·have HJ:Hid (j=n):=by show _=_;omega
   have HV:Hid (oO t v (n - 1)=V):=by show _=_;rw [←HJ.out];exact HR.out.1.symm
   have hcs:(V<lo∨¬V<lo∧1114111<V∨¬V<lo∧¬1114111<V∧mA (V:Int) 55296 57343=true)∧AY t=(0,0)∨¬V<lo∧¬1114111<V∧mA (V:Int) 55296 57343=false∧AY t=(V,n):=by
    rw [E.out,fL,HV.out];by_cases c1:V<lo
    ·exact Or.inl ⟨Or.inl c1,if_neg (fun h=>by have:=h.2.2.1;omega)⟩
    by_cases c2:1114111<V
    ·exact Or.inl ⟨Or.inr (Or.inl ⟨c1,c2⟩),if_neg (fun h=>by have:=(PR h.2.2.2).1;omega)⟩
    by_cases c3:55296≤V∧V≤57343
    ·exact Or.inl ⟨Or.inr (Or.inr ⟨c1,c2,by simp [mA];omega⟩),if_neg (fun h=>(PR h.2.2.2).2 c3)⟩
    ·exact Or.inr ⟨c1,c2,by simp [mA];omega,if_pos ⟨by omega,fun k hk=>HR.out.2 k (by have:=HJ.out;omega),by omega,aOw ⟨by omega,c3⟩⟩⟩
   clear HJ;rcases hcs with ⟨c1 | ⟨c1,c2⟩ | ⟨c1,c2,c3⟩,E2⟩ | ⟨c1,c2,c3,E2⟩
   all_goals
    have E2:=iA E2;go_wp2_with (go_at_call 22;refine (gC (by assumption) _).mono ?_;rintro e w1 ⟨rfl,hw⟩;replace hw:=hw.symm;subst hw);go_ret2;exact ⟨gR (by simp [E2.out]) (by simp [E2.out]),rfl⟩
end Go.Proofs.YtcneojllbkacoaaGreatDoor
