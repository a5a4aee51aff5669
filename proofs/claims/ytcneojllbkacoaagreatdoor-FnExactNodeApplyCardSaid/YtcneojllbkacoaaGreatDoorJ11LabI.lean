import Derived.Test.YtcneojllbkacoaaGreatDoorJ04StrL
import Derived.Test.YtcneojllbkacoaaGreatDoorJ07SRune
set_option maxRecDepth 100000
set_option maxHeartbeats 1000000
namespace Go.Proofs.YtcneojllbkacoaaGreatDoor
open Go.RowKit
structure pC where
 kind:Int
 tenant:ByteArray
 text:ByteArray
 num:Int
def DG (w:World) (b o:Nat) (ls:List pC):Prop:=
 ∀i (h:i<ls.length),w.cell? ⟨b,o+i * 4,none⟩=some (.int .i64 ls[i].kind)∧w.cell? ⟨b,o+i * 4+1,none⟩=some (.string ls[i].tenant)∧w.cell? ⟨b,o+i * 4+2,none⟩=some (.string ls[i].text)∧w.cell? ⟨b,o+i * 4+3,none⟩=some (.int .i64 ls[i].num)
def oE (w:World) (a:Option Addr) (ls:List pC):Prop:=ls=[]∨∃b o,a=some ⟨b,o,none⟩∧b<w.heap.size∧DG w b o ls
theorem oE.later {w w':World}{a:Option Addr}{ls:List pC} (h:oE w a ls) (hb:Below w.heap.size w w'):oE w' a ls:=by
 rcases h with h | ⟨b,o,rfl,hlt,h⟩
 ·exact Or.inl h
 ·refine Or.inr ⟨b,o,rfl,Nat.lt_of_lt_of_le hlt hb.size,fun i hi=>?_⟩;obtain ⟨h1,h2,h3,h4⟩:=h i hi;exact ⟨by rw [←h1];exact hb.cell hlt,by rw [←h2];exact hb.cell hlt,by rw [←h3];exact hb.cell hlt,by rw [←h4];exact hb.cell hlt⟩
theorem oE.at {w:World}{a:Option Addr}{ls:List pC} (h:oE w a ls){i:Nat} (hi:i<ls.length):
 ∃b o,a=some ⟨b,o,none⟩∧b<w.heap.size∧w.cell? ⟨b,o+i * 4,none⟩=some (.int .i64 ls[i].kind)∧w.cell? ⟨b,o+i * 4+1,none⟩=some (.string ls[i].tenant)∧w.cell? ⟨b,o+i * 4+2,none⟩=some (.string ls[i].text)∧w.cell? ⟨b,o+i * 4+3,none⟩=some (.int .i64 ls[i].num):=by
 rcases h with rfl | ⟨b,o,rfl,hlt,h⟩
 ·exact absurd hi (by simp)
 ·exact ⟨b,o,rfl,hlt,h i hi⟩
def nQ (w:World) (B:Nat) (a:Option Addr) (ls:List pC):Prop:=
 ls=[]∨∃g o cur t,a=some ⟨g,o,none⟩∧B≤g∧w.heap[g]?=some (.cells cur t (0,0))∧DG w g o ls
theorem nQ.recs {w:World}{B:Nat}{a:Option Addr}{ls:List pC} (h:nQ w B a ls):oE w a ls:=by
 rcases h with h | ⟨g,o,cur,t,rfl,_,hb,h⟩
 ·exact Or.inl h
 ·exact Or.inr ⟨g,o,rfl,aA hb,h⟩
def iM (cur:Array Value) (o j:Nat) (f:pC):Prop:=cur[o+j * 4]?=some (.int .i64 f.kind)∧cur[o+j * 4+1]?=some (.string f.tenant)∧cur[o+j * 4+2]?=some (.string f.text)∧cur[o+j * 4+3]?=some (.int .i64 f.num)
theorem iM.set {cur:Array Value}{o j:Nat}{f:pC} (h:iM cur o j f){p:Nat} (hp:p<o+j * 4∨o+j * 4+3<p) (v:Value):iM (cur.setIfInBounds p v) o j f:=by
 obtain ⟨a1,a2,a3,a4⟩:=h;refine ⟨?_,?_,?_,?_⟩
 ·rw [Array.getElem?_setIfInBounds_ne (by omega)];exact a1
 ·rw [Array.getElem?_setIfInBounds_ne (by omega)];exact a2
 ·rw [Array.getElem?_setIfInBounds_ne (by omega)];exact a3
 ·rw [Array.getElem?_setIfInBounds_ne (by omega)];exact a4
theorem iM.made (cur:Array Value) (o j:Nat) (f:pC) (h:o+j * 4+3<cur.size):
 iM ((((cur.setIfInBounds (o+j * 4) (.int .i64 f.kind)).setIfInBounds (o+j * 4+1) (.string f.tenant)).setIfInBounds (o+j * 4+2) (.string f.text)).setIfInBounds (o+j * 4+3) (.int .i64 f.num)) o j f:=by
 refine ⟨?_,?_,?_,?_⟩<;>simp [Array.getElem?_setIfInBounds]<;>omega
theorem GG {w:World}{g o:Nat}{cur:Array Value}{t:TypeId}{fs:List pC} (h:lA w g cur t) (hr:∀j (hj:j<fs.length),iM cur o j fs[j]):DG w g o fs:=by
 intro j hj;simp only [h.cell];exact hr j hj
theorem GM {w:World}{g o:Nat}{cur:Array Value}{t:TypeId}{fs:List pC} (h:lA w g cur t) (hf:DG w g o fs):∀j (hj:j<fs.length),iM cur o j fs[j]:=by
 intro j hj;have:=hf j hj;simp only [h.cell] at this;exact this
theorem aGt {cur:Array Value}{o:Nat}{fs:List pC} (hr:∀j (hj:j<fs.length),iM cur o j fs[j]):fs.length=0∨o+fs.length * 4≤cur.size:=by
 by_cases h:fs.length=0
 ·exact Or.inl h
 ·right;have:=(hr (fs.length - 1) (by omega)).2.2.2;have:=(Array.getElem?_eq_some_iff.1 this).1;omega
def uB:List pC→Nat
 | []=>0
 | f :: r=>f.tenant.size+f.text.size+uB r
theorem uS (a b:List pC):uB (a++b)=uB a+uB b:=by
 induction a with
 | nil=>simp [uB]
 | cons f r ih=>simp [uB,ih];omega
theorem bK (fs:List pC) (k:Nat) (h:k<fs.length):uB (fs.take (k+1))=uB (fs.take k)+(fs[k].tenant.size+fs[k].text.size):=by
 rw [List.take_succ_eq_append_getElem h,uS];simp [uB]
theorem nM (fs:List pC) (k:Nat):uB (fs.take k)≤uB fs:=by
 have:=uS (fs.take k) (fs.drop k);rw [List.take_append_drop] at this;omega
def qZ (left:Int) (f:pC):Int:=if (f.tenant.size+f.text.size:Int)≤left then left - f.tenant.size - f.text.size else -1
def lR (left:Int) (fs:List pC):Int:=if (fs.length+uB fs:Int)≤left then left - fs.length - uB fs else -1
def DH (fs:List pC):Prop:=∀i (h:i<fs.length),fs[i].tenant.size≤maxLen∧fs[i].text.size≤maxLen
def kY (s:ByteArray):ByteArray:=nC 1 (s.size:Nat)++s
def iJ (s:ByteArray):ByteArray:=nC 2 (s.size:Nat)++s
theorem vS (s:ByteArray):(kY s).size=1+s.size:=by rw [kY,ByteArray.size_append,yB]
theorem dQ (s:ByteArray):(iJ s).size=2+s.size:=by rw [iJ,ByteArray.size_append,yB]
theorem sY {x y:ByteArray} (h:x.data.toList=y.data.toList):x=y:=by
 cases x;cases y
 simp only [ByteArray.mk.injEq];exact Array.toList_inj.1 h
theorem rQ (x y:ByteArray):(x++y).data.toList=x.data.toList++y.data.toList:=by simp
theorem wI (s:ByteArray) (i j:Nat):(s.extract i j).data.toList=(s.data.toList.take j).drop i:=by
 rw [ByteArray.data_extract,Array.toList_extract,List.extract_eq_drop_take']
theorem sM (s:ByteArray):s.size=s.data.toList.length:=by simp
structure Rd where
 rest:ByteArray
 short:Bool
def jD (n:Nat) (r:Rd):ByteArray×Rd:=if r.rest.size<n then (ByteArray.empty,⟨r.rest,true⟩) else (r.rest.extract 0 n,⟨r.rest.extract n r.rest.size,r.short⟩)
def yI (k:Nat) (r:Rd):Nat×Rd:=(tU (jD k r).1.data.toList,(jD k r).2)
def iD (k:Nat) (r:Rd):ByteArray×Rd:=jD (yI k r).1 (yI k r).2
theorem nR (n:Nat) (r:Rd):(jD n r).1.size≤n∧(jD n r).1.size≤r.rest.size∧(jD n r).2.rest.size≤r.rest.size:=by
 unfold jD;split
 ·exact ⟨by simp,by simp,Nat.le_refl _⟩
 ·refine ⟨?_,?_,?_⟩<;>simp<;>omega
theorem xV {n:Nat}{r:Rd} (h:(jD n r).2.short=false):r.short=false∧(jD n r).1.size=n∧r.rest=(jD n r).1++(jD n r).2.rest:=by
 unfold jD at *;split at h
 ·exact absurd h (by simp)
 ·rename_i hn;rw [if_neg hn];refine ⟨h,by simp;omega,?_⟩;apply sY;rw [rQ,wI,wI,List.drop_zero,sM,List.take_length,List.take_append_drop]
theorem rZ {n:Nat}{r:Rd}{t q:ByteArray} (h:r.rest=t++q) (hn:t.size=n):jD n r=(t,⟨q,r.short⟩):=by
 have hz:r.rest.size=n+q.size:=by rw [h,ByteArray.size_append,hn]
 unfold jD;rw [if_neg (by omega)];have e1:r.rest.extract 0 n=t:=by
  apply sY;rw [wI,List.drop_zero,h,rQ,←hn,sM,List.take_left]
 have e2:r.rest.extract n r.rest.size=q:=by
  apply sY;rw [wI,sM r.rest,List.take_length,h,rQ,←hn,sM,List.drop_left]
 rw [e1,e2]
theorem IG {k:Nat}{r:Rd} (h:(iD k r).2.short=false):r.short=false∧r.rest=nC k ((iD k r).1.size:Nat)++((iD k r).1++(iD k r).2.rest):=by
 obtain ⟨h1,h2,h3⟩:=xV (r:=(yI k r).2) h;obtain ⟨g1,g2,g3⟩:=xV (n:=k) (r:=r) h1;refine ⟨g1,?_⟩;have e:nC k ((iD k r).1.size:Nat)=(jD k r).1:=by
  show nC k ((jD (yI k r).1 (yI k r).2).1.size:Nat)=_;rw [h2];have:=aCj (jD k r).1.data.toList k (by rw [←sM];exact g2);show nC k (tU (jD k r).1.data.toList:Nat)=_;rw [this]
 rw [e];have h3':(jD k r).2.rest=(iD k r).1++(iD k r).2.rest:=h3;rw [←h3'];exact g3
theorem MQ {k:Nat}{r:Rd}{t q:ByteArray} (h:r.rest=nC k (t.size:Nat)++(t++q)) (hk:t.size<256 ^ k):iD k r=(t,⟨q,r.short⟩):=by
 have h1:=rZ (n:=k) h (yB k _);have e1:(yI k r).1=t.size:=by
  show tU (jD k r).1.data.toList=_;rw [h1];exact NK k t.size hk
 have e2:(yI k r).2=⟨t++q,r.short⟩:=by
  show (jD k r).2=_;rw [h1]
 rw [iD,e1,e2];exact rZ rfl rfl
theorem QW (k:Nat) (r:Rd):(iD k r).1.size≤r.rest.size∧(iD k r).2.rest.size≤r.rest.size:=by
 have h1:=nR k r;have h2:=nR (yI k r).1 (yI k r).2;have e:(yI k r).2=(jD k r).2:=rfl;rw [e] at h2;exact ⟨by have:=h2.2.1;unfold iD;rw [e];omega,by have:=h2.2.2;unfold iD;rw [e];omega⟩
theorem aJy (k:Nat) (r:Rd):(yI k r).1<256 ^ k:=by
 have h:=DO (jD k r).1.data.toList;have h1:=(nR k r).1;have h2:256 ^ (jD k r).1.data.toList.length≤256 ^ k:=Nat.pow_le_pow_right (by omega) (by rw [←sM];exact h1);show tU (jD k r).1.data.toList<_;omega
def dP (x y:zA):Bool:=x.name.toList==y.name.toList&&x.value.toList==y.value.toList
def wE:List zA→List zA→Bool
 | [],[]=>true
 | x :: r,y :: q=>dP x y&&wE r q
 | _,_=>false
theorem YT (x y:zA):dP x y=true ↔ x=y:=by
 unfold dP;rw [Bool.and_eq_true,beq_iff_eq,beq_iff_eq];constructor
 ·rintro ⟨h1,h2⟩;cases x;cases y
  simp only [zA.mk.injEq];exact ⟨toList_inj h1,toList_inj h2⟩
 ·rintro rfl;exact ⟨rfl,rfl⟩
theorem rV:∀(a b:List zA),wE a b=true ↔ a=b
 | [],[]=>by simp [wE]
 | [],_ :: _=>by simp [wE]
 | _ :: _,[]=>by simp [wE]
 | x :: r,y :: q=>by
   rw [wE,Bool.and_eq_true,YT,rV r q];simp
theorem aAr {a b:List zA} (h:a.length≠b.length):wE a b=false:=by
 rw [Bool.eq_false_iff];intro h';exact h (by rw [(rV a b).1 h'])
theorem WL (a b:List zA) (k:Nat) (ha:k<a.length) (hb:k<b.length):wE (a.drop k) (b.drop k)=(dP a[k] b[k] &&wE (a.drop (k+1)) (b.drop (k+1))):=by
 rw [List.drop_eq_getElem_cons ha,List.drop_eq_getElem_cons hb,wE]
def jM (ls:List zA):Bool:=decide ((iB ls).2.1=0) &&wE (iB ls).1 ls
def xC:List zA→ByteArray
 | []=>ByteArray.empty
 | l :: r=>kY l.name++iJ l.value++xC r
def wP (ls:List zA):ByteArray:=nC 1 (ls.length:Nat)++xC ls
def vT (ls:List zA):ByteArray:=if jM ls=true then wP ls else ByteArray.empty
theorem fK:∀(a b:List zA),xC (a++b)=xC a++xC b
 | [],b=>by simp [xC]
 | l :: r,b=>by
   show kY l.name++iJ l.value++xC (r++b)=kY l.name++iJ l.value++xC r++xC b;rw [fK r b,ByteArray.append_assoc (b:=xC r)]
theorem IC (ls:List zA) (k:Nat) (h:k<ls.length):xC (ls.take (k+1))=xC (ls.take k)++(kY ls[k].name++iJ ls[k].value):=by
 rw [List.take_succ_eq_append_getElem h,fK];simp [xC]
theorem DV (ls:List zA):(iB ls).1.length≤16:=by
 unfold iB;split
 ·simp
 ·rename_i h16;split
  ·simp
  ·split
   ·simp
   ·split
    ·simp only;rw [FA];have:=LH ls;omega
    ·simp
theorem NQ {ls:List zA} (h:(iB ls).2.1=0):ls.length≤16:=by
 unfold iB at h;split at h
 ·exact absurd h (by simp)
 ·omega
theorem DU {ls:List zA} (h:jM ls=true):ls.length≤16:=by
 unfold jM at h;rw [Bool.and_eq_true,decide_eq_true_eq] at h;exact NQ h.1
theorem aId {ls:List zA} (h:jM ls=true):iB ls=(ls,0,(iB ls).2.2):=by
 unfold jM at h;rw [Bool.and_eq_true,decide_eq_true_eq] at h;have h2:=(rV _ _).1 h.2;have h1:=h.1;generalize iB ls=c at *;obtain ⟨x,y,z⟩:=c;simp only at h1 h2;rw [h1,h2]
def dX (r:Rd):zA×Rd:=(⟨(iD 1 r).1,(iD 2 (iD 1 r).2).1⟩,(iD 2 (iD 1 r).2).2)
def wO (r:Rd):Nat→List zA×Rd
 | 0=>([],r)
 | k+1=>((wO r k).1++[(dX (wO r k).2).1],(dX (wO r k).2).2)
def EC (key:ByteArray):Nat:=(yI 1 ⟨key,false⟩).1
def lE (key:ByteArray):List zA×Rd:=wO (yI 1 ⟨key,false⟩).2 (EC key)
def kP (r:Rd):Bool:=!r.short&&(r.rest.toList==ByteArray.empty.toList)
def zD (key:ByteArray):List zA×Bool:=if (kP (lE key).2&&jM (lE key).1)=true then ((lE key).1,true) else ([],false)
theorem aCg (r:Rd):dX r=(⟨(iD 1 r).1,(iD 2 (iD 1 r).2).1⟩,(iD 2 (iD 1 r).2).2):=by rw [dX]
theorem tX (r:Rd) (k:Nat):wO r (k+1)=((wO r k).1++[(dX (wO r k).2).1],(dX (wO r k).2).2):=by rw [wO]
theorem nV (r:Rd):∀k,(wO r k).1.length=k
 | 0=>rfl
 | k+1=>by rw [wO];simp [nV r k]
theorem aFk {r:Rd} (h:(dX r).2.short=false):r.short=false∧r.rest=kY (dX r).1.name++iJ (dX r).1.value++(dX r).2.rest:=by
 obtain ⟨h1,h2⟩:=IG (k:=2) (r:=(iD 1 r).2) h;obtain ⟨g1,g2⟩:=IG (k:=1) (r:=r) h1;refine ⟨g1,?_⟩;rw [g2,h2];apply sY;simp [dX,kY,iJ]
theorem aJh {r:Rd}{l:zA}{q:ByteArray} (h:r.rest=kY l.name++iJ l.value++q) (h1:l.name.size<256) (h2:l.value.size<65536):dX r=(l,⟨q,r.short⟩):=by
 have e:r.rest=nC 1 (l.name.size:Nat)++(l.name++(iJ l.value++q)):=by
  rw [h];apply sY;simp [kY]
 have e1:=MQ e (by omega);have e2:iD 2 (iD 1 r).2=(l.value,⟨q,r.short⟩):=by
  rw [e1];exact MQ (r:=⟨iJ l.value++q,r.short⟩) (by show iJ l.value++q=_;apply sY;simp [iJ]) (by omega)
 rw [dX,e2,e1]
theorem aKn {r:Rd} (k:Nat):(wO r k).2.short=false→r.short=false∧r.rest=xC (wO r k).1++(wO r k).2.rest:=by
 induction k with
 | zero=>
   intro h;refine ⟨h,?_⟩;show r.rest=ByteArray.empty++r.rest;apply sY;simp
 | succ k ih=>
   intro h;rw [tX] at h ⊢;simp only at h ⊢;obtain ⟨h1,h2⟩:=aFk h;obtain ⟨g1,g2⟩:=ih h1;refine ⟨g1,?_⟩;generalize wO r k=R at *;generalize dX R.2=L at *;rw [g2,h2,fK];have e3:xC [L.1]=kY L.1.name++iJ L.1.value:=by
    show kY L.1.name++iJ L.1.value++ByteArray.empty=_;apply sY;simp
   rw [e3];apply sY;simp
def aHx (ls:List zA):Prop:=∀i (h:i<ls.length),ls[i].name.size<256∧ls[i].value.size<65536
theorem aCr {r:Rd}{ls:List zA}{q:ByteArray} (h:r.rest=xC ls++q) (hs:aHx ls):∀k,k≤ls.length→wO r k=(ls.take k,⟨xC (ls.drop k)++q,r.short⟩)
 | 0,_=>by
   cases r
   simp only at h;simp [wO,h]
 | k+1,hk=>by
   have ih:=aCr h hs k (by omega);have e:xC (ls.drop k)++q=kY ls[k].name++iJ ls[k].value++(xC (ls.drop (k+1))++q):=by
    rw [List.drop_eq_getElem_cons (by omega)];apply sY;simp [xC]
   have hl:=aJh (r:=⟨xC (ls.drop k)++q,r.short⟩) e (hs k (by omega)).1 (hs k (by omega)).2;rw [tX,ih,hl,List.take_succ_eq_append_getElem (by omega)]
theorem GO (s:ByteArray):∀(b p:Nat) (l:List Nat),s.size≤p+b→tG s b p=some l→s.size≤p+4 * l.length
 | 0,p,l,hb,_=>by omega
 | b+1,p,l,hb,h=>by
   rw [tG] at h;split at h
   ·split at h
    ·exact absurd h (by simp)
    ·obtain ⟨l',hl',rfl⟩:=Option.map_eq_some_iff.1 h;have h1:=vQ s p;have h4:=(gS s p).2;have:=GO s b _ l' (by omega) hl';simp;omega
   ·omega
theorem aLf {s:ByteArray} (h:rJ s=0):s.size≤512:=by
 unfold rJ at h;split at h
 ·exact absurd h (by simp)
 ·rename_i l hl;unfold SY at h;split at h
  ·exact absurd h (by simp)
  ·have:=GO s s.size 0 l (by omega) hl;omega
theorem bU:∀(ls:List zA) (j:Nat),jC ls j=none→∀i (h:i<ls.length),zR ls[i]=0
 | [],_,_,i,h=>absurd h (by simp)
 | l :: r,j,hn,i,h=>by
   rw [jC] at hn;split at hn
   ·rename_i h0;cases i with
    | zero=>exact h0
    | succ i=>exact bU r _ hn i (by simpa using h)
   ·exact absurd hn (by simp)
theorem AO:∀(l:List zA) (j c i:Nat),jC l j=some (c,i)→c≠0
 | [],_,_,_,h=>by simp [jC] at h
 | x :: r,j,c,i,h=>by
   rw [jC] at h;split at h
   ·exact AO r _ _ _ h
   ·rename_i hx;simp only [Option.some.injEq,Prod.mk.injEq] at h;rw [←h.1];exact hx
theorem fT {ls:List zA} (h:jM ls=true):aHx ls:=by
 have hc:=aId h;have h16:=DU h;have h0:(iB ls).2.1=0:=by rw [hc]
 have hb:jC ls 0=none:=by
  cases hb:jC ls 0 with
  | none=>rfl
  | some ci=>
    obtain ⟨c,i⟩:=ci;rw [gT (by omega) hb] at h0;exact absurd h0 (AO ls 0 c i hb)
 intro i hi;have hl:=bU ls 0 hb i hi;unfold zR at hl;split at hl
 ·rename_i hn;have hn':PJ ls[i].name:=by simpa [cZ] using hn
  have:=aLf hl;exact ⟨by have:=hn'.2.1;omega,by omega⟩
 ·exact absurd hl (by simp)
theorem aIm {ls:List zA} (h:jM ls=true):zD (wP ls)=(ls,true):=by
 have h16:=DU h;have hs:=fT h;have h1:jD 1 ⟨wP ls,false⟩=(nC 1 (ls.length:Nat),⟨xC ls,false⟩):=rZ rfl (yB 1 _);have hc:EC (wP ls)=ls.length:=by
  show tU (jD 1 ⟨wP ls,false⟩).1.data.toList=_;rw [h1];exact NK 1 ls.length (by omega)
 have hn:(yI 1 ⟨wP ls,false⟩).2=⟨xC ls,false⟩:=by
  show (jD 1 ⟨wP ls,false⟩).2=_;rw [h1]
 have ha:lE (wP ls)=(ls,⟨ByteArray.empty,false⟩):=by
  unfold lE;rw [hc,hn];have e:=aCr (r:=⟨xC ls,false⟩) (q:=ByteArray.empty) (by apply sY;simp) hs ls.length (Nat.le_refl _);rw [e,List.take_length,List.drop_length];simp [xC]
 unfold zD;rw [ha];simp only;rw [if_pos (by simp [kP,h])]
theorem NZ {key:ByteArray} (h:(zD key).2=true):jM (zD key).1=true∧wP (zD key).1=key:=by
 unfold zD at h ⊢;split at h
 ·rename_i hw;rw [if_pos hw];rw [Bool.and_eq_true] at hw;refine ⟨hw.2,?_⟩;have hwh:=hw.1;unfold kP at hwh;rw [Bool.and_eq_true] at hwh;have hsh:(lE key).2.short=false:=by simpa using hwh.1
  have hre:(lE key).2.rest=ByteArray.empty:=toList_inj (by simpa using hwh.2);obtain ⟨g1,g2⟩:=aKn (r:=(yI 1 ⟨key,false⟩).2) (EC key) hsh;obtain ⟨k1,k2,k3⟩:=xV (n:=1) (r:=⟨key,false⟩) g1;have hl:(lE key).1.length=EC key:=nV _ _;have e:nC 1 ((lE key).1.length:Nat)=(jD 1 ⟨key,false⟩).1:=by
   rw [hl];have:=aCj (jD 1 ⟨key,false⟩).1.data.toList 1 (by rw [←sM];exact k2);show nC 1 (tU (jD 1 ⟨key,false⟩).1.data.toList:Nat)=_;rw [this]
  show nC 1 ((lE key).1.length:Nat)++xC (lE key).1=key;have g2':(jD 1 ⟨key,false⟩).2.rest=xC (lE key).1++(lE key).2.rest:=g2;have k3':key=(jD 1 ⟨key,false⟩).1++(jD 1 ⟨key,false⟩).2.rest:=k3;rw [e];conv=>rhs;rw [k3',g2',hre]
  apply sY;simp
 ·exact absurd h (by simp)
theorem CY {key:ByteArray} (h:(zD key).2=false):zD key=([],false)∧∀ls,jM ls=true→wP ls≠key:=by
 refine ⟨?_,fun ls hc e=>?_⟩
 ·unfold zD at h ⊢;split at h
  ·exact absurd h (by simp)
  ·rename_i hw;rw [if_neg hw]
 ·rw [←e,aIm hc] at h;exact absurd h (by simp)
theorem aKm (r:Rd) (k:Nat):(wO r k).2.rest.size≤r.rest.size∧∀i (h:i<(wO r k).1.length),(wO r k).1[i].name.size≤r.rest.size∧(wO r k).1[i].value.size≤r.rest.size:=by
 induction k with
 | zero=>exact ⟨Nat.le_refl _,fun i h=>absurd h (by simp [wO])⟩
 | succ k ih=>
   have h1:=QW 1 (wO r k).2;have h2:=QW 2 (iD 1 (wO r k).2).2;rw [tX,aCg];generalize wO r k=R at *;generalize iD 1 R.2=t1 at *;generalize iD 2 t1.2=t2 at *;refine ⟨by have:=ih.1;simp only;omega,fun i hi=>?_⟩;simp only at hi;by_cases e:i<R.1.length
   ·simp only [List.getElem_append_left e];exact ih.2 i e
   ·have hlen:i=R.1.length:=by simp at hi;omega
    subst hlen;simp only [List.getElem_concat_length];have:=ih.1;exact ⟨by omega,by omega⟩
theorem aGs (key:ByteArray):∀i (h:i<(lE key).1.length),(lE key).1[i].name.size≤key.size∧(lE key).1[i].value.size≤key.size:=by
 intro i hi;have h1:=(aKm (yI 1 ⟨key,false⟩).2 (EC key)).2 i hi;have h2:=(nR 1 ⟨key,false⟩).2.2;have h3:(yI 1 ⟨key,false⟩).2.rest.size≤key.size:=h2;exact ⟨Nat.le_trans h1.1 h3,Nat.le_trans h1.2 h3⟩
theorem aEy:∃i,Tryz.prog.info? 9=some i∧i.zero=some (.string ByteArray.empty)∧i.size=1∧i.bytes=16:=by
 have h:(Tryz.prog.info? 9).map (fun i=>(i.zero,i.size,i.bytes))=some (some (.string ByteArray.empty),1,16):=by kernel_rfl
 obtain ⟨i,hi,hz⟩:=Option.map_eq_some_iff.1 h;simp only [Prod.mk.injEq] at hz;exact ⟨i,hi,hz.1,hz.2.1,hz.2.2⟩
theorem GV {w:World}{B:Nat}{e:TypeId}{g cv:Nat}{xs:List ByteArray} (h:w.ownsRow B e 1 (.slice (some ⟨g,0,none⟩) xs.length cv) xs.length (xs.map Value.string)):
 xs.length≤cv∧g<w.heap.size∧∀(j:Nat) x,xs[j]?=some x→w.cell? ⟨g,0+j,none⟩=some (.string x):=by
 rcases h.2 with ⟨he,_⟩ | ⟨g',cap',cur,he,hB,hb,hc,_,_,ht⟩
 ·simp at he
 ·simp only [Value.slice.injEq,Option.some.injEq,Addr.mk.injEq,and_true] at he;obtain ⟨rfl,_,rfl⟩:=he;refine ⟨hc,aA hb,fun j x hx=>?_⟩;rw [cell_of_row w g _ cur _ _ hb,Nat.zero_add,←Array.getElem?_toList];have h2:(xs.map Value.string)[j]?=some (.string x):=by rw [List.getElem?_map,hx];rfl
  rw [←ht] at h2;have hj:=(List.getElem?_eq_some_iff.1 h2).1;rw [List.length_take] at hj;rw [List.getElem?_take_of_lt (by omega)] at h2;exact h2
def MY (w:World) (a:Option Addr) (l:List Int):Prop:=l=[]∨∃b o,a=some ⟨b,o,none⟩∧b<w.heap.size∧∀i (h:i<l.length),w.cell? ⟨b,o+i,none⟩=some (.int .i64 l[i])
theorem MY.at {w:World}{a:Option Addr}{l:List Int} (h:MY w a l){i:Nat} (hi:i<l.length):∃b o,a=some ⟨b,o,none⟩∧b<w.heap.size∧w.cell? ⟨b,o+i,none⟩=some (.int .i64 l[i]):=by
 rcases h with rfl | ⟨b,o,rfl,hlt,h⟩
 ·exact absurd hi (by simp)
 ·exact ⟨b,o,rfl,hlt,h i hi⟩
theorem VR {w:World}{B:Nat}{e:TypeId}{a:Option Addr}{cap:Nat}{l:List Int} (h:w.ownsRow B e 1 (.slice a l.length cap) l.length (l.map (Value.int .i64))):MY w a l:=by
 rcases h.2 with ⟨_,hl⟩ | ⟨g,cap',cur,he,hB,hg,_,_,hsz,htk⟩
 ·exact Or.inl (List.length_eq_zero_iff.1 hl)
 ·simp only [Value.slice.injEq] at he;refine Or.inr ⟨g,0,he.1,aA hg,fun i hi=>?_⟩;rw [Nat.zero_add,cell_of_row w g i cur _ _ hg];have h2:(cur.toList.take (l.length * 1))[i]?=(l.map (Value.int .i64))[i]?:=by rw [htk]
  rw [List.getElem?_take_of_lt (by omega)] at h2;rw [←Array.getElem?_toList,h2];simp [List.getElem?_eq_getElem hi]
theorem aIv:∃i,Tryz.prog.info? 3=some i∧i.zero=some (.int .i64 0)∧i.size=1∧i.bytes=8:=by
 have h:(Tryz.prog.info? 3).map (fun i=>(i.zero,i.size,i.bytes))=some (some (.int .i64 0),1,8):=by kernel_rfl
 obtain ⟨i,hi,hz⟩:=Option.map_eq_some_iff.1 h;simp only [Prod.mk.injEq] at hz;exact ⟨i,hi,hz.1,hz.2.1,hz.2.2⟩
theorem aOz (a b:Nat) (ha:a<4611686018427387904) (hb:b<4611686018427387904):bits .or .i64 (a:Int) (b:Int)=((a||| b:Nat):Int):=by
 have hx:a||| b<2 ^ 62:=Nat.or_lt_two_pow (by omega) (by omega)
 show IntKind.i64.wrap ((BitVec.ofInt 64 (a:Int) ||| BitVec.ofInt 64 (b:Int)).toNat:Int)=_;rw [BitVec.toNat_or,BitVec.ofInt_natCast,BitVec.ofInt_natCast,BitVec.toNat_ofNat,BitVec.toNat_ofNat,Nat.mod_eq_of_lt (by omega),Nat.mod_eq_of_lt (by omega)];simp only [IntKind.wrap,IntKind.bits,IntKind.signed];simp;omega
theorem aPa (a b:Nat) (hb:b<256) (ha:a<281474976710656):bits .or .i64 ((a:Int) * 256) (b:Int)=((a * 256+b:Nat):Int):=by
 have hx:a * 256||| b=a * 256+b:=by
  have:=Nat.two_pow_add_eq_or_of_lt (i:=8) (b:=b) (by omega) a;rw [show 2 ^ 8 * a=a * 256 by omega] at this;exact this.symm
 rw [←hx];exact aOz (a * 256) b (by omega) (by omega)
theorem UD (s:ByteArray) (w:World) (hs:s.size≤7):
 Calls Tryz.prog 275 #[.string s] w fun e w'=>e=.returned (.int .i64 (tU s.data.toList:Nat))∧w'=w:=by
 go_enter Tryz.func275,Tryz.ntmps275;go_wp2;go_loopw [3,4,7] (fun x _ c wr=>∃(k X:Nat),k≤s.size∧c=.int .i64 k∧x=.int .i64 X∧X<256 ^ k∧Hid (X=tU (s.data.toList.take k))∧wr=w) (fun _ _ c _=>s.size - (intOf c).toNat)
 case atStart=>exact ⟨0,0,by omega,rfl,rfl,by simp,by show _=_;simp [tU],rfl⟩
 case round=>
  obtain ⟨k,X,hk,rfl,rfl,hX,hx,rfl⟩:=hrel;by_cases hlt:k<s.size
  ·have hc:=(s[k]).toNat_lt;have hX6:X<281474976710656:=Nat.lt_of_lt_of_le hX (Nat.pow_le_pow_right (n:=256) (by omega) (show k≤6 by omega));have ho:=aPa X (s[k]).toNat (by omega) (by omega);go_wp2;refine ⟨⟨k+1,X * 256+(s[k]).toNat,by omega,by go_num,?_,?_,?_,trivial⟩,by simp [intOf];omega⟩
   ·go_num
   ·rw [Nat.pow_succ];omega
   ·show _=_;rw [iQ s k hlt,DP,←hx.out]
  ·have e:k=s.size:=by omega
   subst e;go_wp2;go_ret;refine ⟨?_,rfl⟩;show Ending.returned (.int .i64 (X:Nat))=_;rw [hx.out,List.take_of_length_le (by simp)]
theorem ZJ:(Tryz.prog.info? 202).map (fun i=>(i.zero,i.size,i.bytes))=some (some (.agg #[.string ByteArray.empty,.string ByteArray.empty]),2,32):=by kernel_rfl
end Go.Proofs.YtcneojllbkacoaaGreatDoor
