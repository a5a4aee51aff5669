import Derived.Test.YtcneojllbkacoaaGreatDoorJ13SWith2
import Derived.Test.YtcneojllbkacoaaGreatDoorJ08Charge
import Derived.Test.YtcneojllbkacoaaGreatDoorJ10ISum
import Derived.Test.YtcneojllbkacoaaGreatDoorJ14Eq
set_option maxRecDepth 100000
set_option maxHeartbeats 2000000
namespace Go.Proofs.YtcneojllbkacoaaGreatDoor
open Go.RowKit
structure lO where
 kind:Int
 name:ByteArray
 to:ByteArray
 data:ByteArray
 size:Int
def XV (op:lO):Bool:=mA op.kind 1 6&&lF op.name&&(decide (op.kind≠5) ||lF op.to)
def kK (fs:List eA) (c:Int) (op:lO):Nat×List eA:=
 let i:=vA op.name fs
 if op.kind=1 then (if mG fs op.name i=true then (5,fs) else if 1000≤fs.length then (3,fs) else (0,iI fs i ⟨op.name,ByteArray.empty,0⟩))
 else match fs[i]? with
  | none=>(4,fs)
  | some f=>
    if mG fs op.name i=false then (4,fs)
    else if op.kind=2 then (if c<aB fs+op.data.size then (3,fs) else (0,fs.set i ⟨f.name,f.data++op.data,f.synced⟩))
    else if op.kind=3 then (0,fs.set i ⟨f.name,f.data,f.data.size⟩)
    else if op.kind=4 then (if mA op.size 0 f.data.size=true then (0,fs.set i ⟨f.name,f.data.extract 0 op.size.toNat,op.size⟩) else (6,fs))
    else if op.kind=5 then (0,qF (fs.eraseIdx i) ⟨op.to,f.data,f.synced⟩)
    else (0,fs.eraseIdx i)
def ND (w:World) (b:Nat) (op:lO) (t:TypeId):Prop:=lA w b #[.int .i64 op.kind,.string op.name,.string op.to,.string op.data,.int .i64 op.size] t
theorem ND.cells {w:World}{b:Nat}{op:lO}{t:TypeId} (h:ND w b op t):w.cell? ⟨b,0,none⟩=some (.int .i64 op.kind)∧w.cell? ⟨b,1,none⟩=some (.string op.name)∧w.cell? ⟨b,2,none⟩=some (.string op.to)∧w.cell? ⟨b,3,none⟩=some (.string op.data)∧w.cell? ⟨b,4,none⟩=some (.int .i64 op.size):=by
 refine ⟨?_,?_,?_,?_,?_⟩<;>rw [lA.cell h]<;>rfl
theorem PV {w:World}{B g cap:Nat}{cur:Array Value}{e:TypeId}{fs:List eA} (hB:B≤g) (h:lA w g cur e) (hn:fs.length≤cap) (hm:cap≤maxLen) (hs:cur.size=cap * 3) (hr:∀j (hj:j<fs.length),kE cur 0 j fs[j]):
 w.ownsRow B e 3 (.slice (some ⟨g,0,none⟩) fs.length cap) fs.length (flat fs):=
 bN hB h hn hm hs (cD fs) fun j u hu=>by
  have:=uJ (kM h hr) j u hu;rwa [Addr.add_lit,Nat.zero_add] at this
theorem aH {w:World}{B g cap:Nat}{e:TypeId}{fs:List eA} (h:w.ownsRow B e 3 (.slice (some ⟨g,0,none⟩) fs.length cap) fs.length (flat fs)):
 ∃cur,B≤g∧lA w g cur e∧fs.length≤cap∧cap≤maxLen∧cur.size=cap * 3∧∀j (hj:j<fs.length),kE cur 0 j fs[j]:=by
 obtain ⟨cur,hB,_,hb,hn,hm,hs,hc⟩:=xM h;refine ⟨cur,hB,hb,hn,hm,hs,fun j hj=>?_⟩;obtain ⟨a1,a2,a3⟩:=uW fs j hj;have b1:=hc _ _ a1;have b2:=hc _ _ a2;have b3:=hc _ _ a3;rw [hb.cell] at b1 b2 b3;exact ⟨by rw [Nat.zero_add];exact b1,by rw [Nat.zero_add];exact b2,by rw [Nat.zero_add];exact b3⟩
theorem dB.slice {w:World}{B D:Nat}{fs:List eA}{c k cr fl:Int}{dn:Bool}{v:Value} (h:dB w B D fs c k cr fl dn v) (hn:0<fs.length):∃g cap,v=.slice (some ⟨g,0,none⟩) fs.length cap∧g≠D∧B≤g:=by
 rcases h.row.2 with ⟨_,h0⟩ | ⟨g,cap,cur,rfl,hB,_⟩
 ·omega
 ·exact ⟨g,cap,rfl,h.apart g rfl,hB⟩
theorem dB.size {w:World}{B D:Nat}{fs:List eA}{c k cr fl:Int}{dn:Bool}{v:Value} (h:dB w B D fs c k cr fl dn v):B≤w.heap.size:=by
 have:=aA h.blk;have:=h.from';omega
theorem dB.cell4 {w:World}{B D:Nat}{fs:List eA}{c k cr fl:Int}{dn:Bool}{v:Value} (h:dB w B D fs c k cr fl dn v):w.cell? ⟨D,4,none⟩=some v:=by
 have:=h.blk.cell 4;simpa using this
theorem dB.cell5 {w:World}{B D:Nat}{fs:List eA}{c k cr fl:Int}{dn:Bool}{v:Value} (h:dB w B D fs c k cr fl dn v):w.cell? ⟨D,5,none⟩=some (.int .i64 c):=by
 have:=h.blk.cell 5;simpa using this
theorem dB.files {w:World}{B D:Nat}{fs:List eA}{c k cr fl:Int}{dn:Bool}{v:Value} (h:dB w B D fs c k cr fl dn v):∃a cap,v=.slice a fs.length cap∧kA w a fs:=by
 obtain ⟨a,cap,rfl,ho⟩:=kF h.row;exact ⟨a,cap,rfl,ho.files⟩
theorem dB.put {w w':World}{B D g cap i:Nat}{fs:List eA}{f:eA}{c k cr fl:Int}{dn:Bool}{cur':Array Value} (h:dB w B D fs c k cr fl dn (.slice (some ⟨g,0,none⟩) fs.length cap)) (hbut:bE g w w')
 (hb:lA w' g cur' 116) (hs:cur'.size=cap * 3) (hr:∀m (hm:m<fs.length),kE cur' 0 m (if m=i then f else fs[m])):dB w' B D (fs.set i f) c k cr fl dn (.slice (some ⟨g,0,none⟩) fs.length cap):=by
 obtain ⟨cur,hB,_,hn,hm,_,_⟩:=aH h.row;refine ⟨h.from',lA.keeps h.blk (oC.but hbut) (fun e=>h.apart g rfl e.symm),?_,h.apart⟩;have e:(fs.set i f).length=fs.length:=List.length_set ..;have:=PV (fs:=fs.set i f) hB hb (by rw [e];exact hn) hm hs (fun j hj=>by
  have h1:=hr j (by omega);rw [List.getElem_set];by_cases e2:j=i
  ·subst e2;simpa using h1
  ·rw [if_neg e2] at h1;rw [if_neg (Ne.symm e2)];exact h1)
 rw [e] at this;rw [e];exact this
theorem aHp (b o:Nat) (cur:Array Value) (t:TypeId) (d x:ByteArray) (w:World) (hb:lA w b cur t) (h1:cur[o+1]?=some (.string d)) (hl:d.size+x.size≤4000000000):
 Calls Tryz.prog 210 #[.pointer (some ⟨b,o,none⟩),.string x] w fun e w'=>e=.returned (.tuple #[])∧w'=w.setCell ⟨b,o+1,none⟩ (.string (d++x)):=by
 have c1:=hb.cell (o+1);rw [h1] at c1;have f1:=hb.free (o+1);clear hb h1;go_enter Tryz.func210,Tryz.ntmps210;go_wp2;go_end0;exact ⟨rfl,rfl⟩
theorem aKq {cur:Array Value}{fs:List eA}{i:Nat} (hi:i<fs.length) (h:∀m (hm:m<fs.length),kE cur 0 m fs[m]) (x:ByteArray) (s:Int):
 ∀m (hm:m<fs.length),kE ((cur.setIfInBounds (i * 3+1) (.string x)).setIfInBounds (i * 3+2) (.int .i64 s)) 0 m (if m=i then ⟨fs[i].name,x,s⟩ else fs[m]):=by
 intro m hm;by_cases e:m=i
 ·subst e;rw [if_pos rfl];obtain ⟨a1,a2,a3⟩:=h m hm;have l2:=(Array.getElem?_eq_some_iff.1 a2).1;have l3:=(Array.getElem?_eq_some_iff.1 a3).1;rw [Nat.zero_add] at l2 l3;refine ⟨?_,?_,?_⟩
  ·rw [Array.getElem?_setIfInBounds_ne (by omega),Array.getElem?_setIfInBounds_ne (by omega)];exact a1
  ·rw [Nat.zero_add,Array.getElem?_setIfInBounds_ne (by omega)];simp [l2]
  ·rw [Nat.zero_add];simp [l3]
 ·rw [if_neg e];exact ((h m hm).set (by omega) _).set (by omega) _
theorem aGy {cur:Array Value}{fs:List eA}{i:Nat} (hi:i<fs.length) (h:∀m (hm:m<fs.length),kE cur 0 m fs[m]) (x:ByteArray):
 ∀m (hm:m<fs.length),kE (cur.setIfInBounds (i * 3+1) (.string x)) 0 m (if m=i then ⟨fs[i].name,x,fs[i].synced⟩ else fs[m]):=by
 intro m hm;by_cases e:m=i
 ·subst e;rw [if_pos rfl];obtain ⟨a1,a2,a3⟩:=h m hm;have l2:=(Array.getElem?_eq_some_iff.1 a2).1;rw [Nat.zero_add] at l2;refine ⟨?_,?_,?_⟩
  ·rw [Array.getElem?_setIfInBounds_ne (by omega)];exact a1
  ·rw [Nat.zero_add];simp [l2]
  ·rw [Array.getElem?_setIfInBounds_ne (by omega)];exact a3
 ·rw [if_neg e];exact (h m hm).set (by omega) _
theorem aGz {cur:Array Value}{fs:List eA}{i:Nat} (hi:i<fs.length) (h:∀m (hm:m<fs.length),kE cur 0 m fs[m]) (s:Int):
 ∀m (hm:m<fs.length),kE (cur.setIfInBounds (i * 3+2) (.int .i64 s)) 0 m (if m=i then ⟨fs[i].name,fs[i].data,s⟩ else fs[m]):=by
 intro m hm;by_cases e:m=i
 ·subst e;rw [if_pos rfl];obtain ⟨a1,a2,a3⟩:=h m hm;have l3:=(Array.getElem?_eq_some_iff.1 a3).1;rw [Nat.zero_add] at l3;refine ⟨?_,?_,?_⟩
  ·rw [Array.getElem?_setIfInBounds_ne (by omega)];exact a1
  ·rw [Array.getElem?_setIfInBounds_ne (by omega)];exact a2
  ·rw [Nat.zero_add];simp [l3]
 ·rw [if_neg e];exact (h m hm).set (by omega) _
theorem QZ (b o:Nat) (cur:Array Value) (t:TypeId) (d:ByteArray) (s:Int) (w:World) (hb:lA w b cur t) (h1:cur[o+1]?=some (.string d)) (hs:mA s 0 d.size=false):
 Calls Tryz.prog 171 #[.pointer (some ⟨b,o,none⟩),.int .i64 s] w fun e w'=>e=.returned (xF 6)∧Below w.heap.size w w':=by
 have c1:=hb.cell (o+1);rw [h1] at c1;have HS:Hid (mA s 0 d.size=false):=hs;clear hb h1 hs;go_enter Tryz.func171,Tryz.ntmps171;go_wp2_with fail;refine (qJ HS.out _).mono ?_;rintro e w' ⟨rfl,rfl⟩;go_wp2;go_ret;exact ⟨rfl,Below.refl _ _⟩
theorem XQ (b o:Nat) (cur:Array Value) (t:TypeId) (d:ByteArray) (s:Int) (w:World) (hb:lA w b cur t) (h1:cur[o+1]?=some (.string d)) (h2:o+2<cur.size) (hs:mA s 0 d.size=true) (hd:d.size≤1000000000):
 Calls Tryz.prog 171 #[.pointer (some ⟨b,o,none⟩),.int .i64 s] w fun e w'=>e=.returned (xF 0)∧bE b w w'∧
  lA w' b ((cur.setIfInBounds (o+1) (.string (d.extract 0 s.toNat))).setIfInBounds (o+2) (.int .i64 s)) t:=by
 have c1:=hb.cell (o+1);rw [h1] at c1;have f1:=hb.free (o+1);have HS:Hid (mA s 0 d.size=true):=hs;have hs0:0≤s∧s≤d.size:=by simpa [mA] using hs
 obtain ⟨hs0,hs1⟩:=hs0;have HB:Hid (lA w b cur t):=hb;have H1:Hid (o+1<cur.size):=(Array.getElem?_eq_some_iff.1 h1).1;have H2:Hid (o+2<cur.size):=h2;clear hb h1 hs h2;go_enter Tryz.func171,Tryz.ntmps171;go_wp2_with fail;refine (qJ HS.out _).mono ?_;rintro e w' ⟨rfl,rfl⟩;go_wp2_with fail;refine (XD b o _ t (d.extract 0 s.toNat) _ (HB.out.set (o+1) (.string (d.extract 0 s.toNat))) (by have:=H1.out;simp [Array.getElem?_setIfInBounds];omega) (by have:=H2.out;simp;omega)).mono ?_;rintro e w1 ⟨rfl,hw1⟩;have HF:Hid (bE b w' w1):=by show bE b w' w1;rw [hw1];exact ((bE.refl _ _).setCell _ _).setCell _ _
 have E3:Hid (((d.extract 0 s.toNat).size:Int)=s):=by show _=_;rw [ByteArray.size_extract];omega
 have HG:Hid (lA w1 b ((cur.setIfInBounds (o+1) (.string (d.extract 0 s.toNat))).setIfInBounds (o+2) (.int .i64 s)) t):=by
  have h:=(HB.out.set (o+1) (.string (d.extract 0 s.toNat))).set (o+2) (.int .i64 ((d.extract 0 s.toNat).size:Nat));show lA _ _ _ _;rw [hw1];rw [E3.out] at h ⊢;exact h
 clear hw1;go_wp2;go_ret;exact ⟨rfl,HF.out,HG.out⟩
theorem dB.turn {w w':World}{B D:Nat}{fs fs':List eA}{c k cr fl:Int}{dn:Bool}{v v':Value} (h:dB w B D fs c k cr fl dn v) (hb:lA w' D #[.int .i64 k,.int .i64 cr,.int .i64 fl,.bool dn,v',.int .i64 c] 185)
 (hr:w'.ownsRow B 116 3 v' fs'.length (flat fs')) (ha:∀g,v'.ownBlock=some g→g≠D):dB w' B D fs' c k cr fl dn v':=⟨h.from',hb,hr,ha⟩
theorem kU {w:World}{B:Nat}{e:TypeId}{size:Nat}{v:Value}{n:Nat}{xs:List Value} (h:w.ownsRow B e size v n xs){D:Nat} (hD:∀g,v.ownBlock=some g→g≠D) (o:Nat) (u:Value):(w.setCell ⟨D,o,none⟩ u).ownsRow B e size v n xs:=by
 obtain ⟨h1,h2⟩:=h;refine ⟨h1,?_⟩;rcases h2 with h2 | ⟨g,cap,cur,hv,hB,hg,r⟩
 ·exact Or.inl h2
 ·have hne:=hD g (by rw [hv];rfl);exact Or.inr ⟨g,cap,cur,hv,hB,(Below.heap_setCell w ⟨D,o,none⟩ u g hne).trans hg,r⟩
theorem GH (B D i:Nat) (fs:List eA) (c k cr fl:Int) (dn:Bool) (v:Value) (w:World) (h:dB w B D fs c k cr fl dn v) (hi:i<fs.length) (hlen:fs.length≤1048576):
 Calls Tryz.prog 173 #[.pointer (some ⟨D,0,none⟩),.int .i64 i] w fun e w'=>
  e=.returned (.tuple #[])∧∃v',dB w' B D (fs.eraseIdx i) c k cr fl dn v'∧v'.ownBlock=v.ownBlock∧oC (fun k=>k=D∨v.ownBlock=some k) w w':=by
 obtain ⟨g,cap,rfl,hgD,hBg⟩:=h.slice (by omega);have d4:=h.cell4;have HD:Hid _:=h;have hw1:IntKind.i64.wrap ((i:Int)+1)=(i:Int)+1:=by rw [IntKind.wrap_i64];omega
 clear h;go_enter Tryz.func173,Tryz.ntmps173;go_wp2_with fail;refine (YP B g cap i fs _ HD.out.row hi hlen).mono ?_;rintro e w1 ⟨rfl,hrow,hk⟩;have hblk:=HD.out.blk.keeps hk (fun e=>hgD e.symm);have e4:=hblk.cell 4;have f4:=hblk.free 4;simp only [List.getElem?_toArray,List.getElem?_cons_zero,List.getElem?_cons_succ] at e4;have HR:Hid (w1.ownsRow B 116 3 (.slice (some ⟨g,0,none⟩) (fs.length - 1) cap) (fs.length - 1) (flat (fs.eraseIdx i))):=hrow;have HK:Hid _:=hk;have HB:Hid (lA w1 D #[.int .i64 k,.int .i64 cr,.int .i64 fl,.bool dn,.slice (some ⟨g,0,none⟩) fs.length cap,.int .i64 c] 185):=hblk;clear hrow hk hblk;go_wp2;go_end0;refine ⟨rfl,.slice (some ⟨g,0,none⟩) (fs.length - 1) cap,HD.out.turn ?_ ?_ (fun g' e=>by simp [Value.ownBlock] at e;omega),rfl,?_⟩
 ·have:=HB.out.set 4 (.slice (some ⟨g,0,none⟩) (fs.length - 1) cap);simpa using this
 ·have e:(fs.eraseIdx i).length=fs.length - 1:=by rw [List.length_eraseIdx,if_pos hi]
  rw [e];exact kU HR.out (fun g' e=>by simp [Value.ownBlock] at e;omega) _ _
 ·have hk2:oC (fun k'=>k'=D∨(Value.slice (some ⟨g,0,none⟩) fs.length cap).ownBlock=some k') w w1:=HK.out.mono (fun k' e=>Or.inr (by subst e;rfl));exact hk2.setCell (Or.inl rfl) _ _
theorem NF (B D i:Nat) (fs:List eA) (c k cr fl:Int) (dn:Bool) (v:Value) (x:ByteArray) (w:World) (h:dB w B D fs c k cr fl dn v) (hi:i<fs.length) (hlen:fs.length≤1048576) (hsum:(aB fs:Int)≤c) (hc:c≤1000000000):
 Calls Tryz.prog 169 #[.pointer (some ⟨D,0,none⟩),.int .i64 i,.string x] w fun e w'=>
  ((c<aB fs+x.size∧e=.returned (xF 3)∧dB w' B D fs c k cr fl dn v)∨(aB fs+x.size≤c∧e=.returned (xF 0)∧dB w' B D (fs.set i ⟨fs[i].name,fs[i].data++x,fs[i].synced⟩) c k cr fl dn v))∧vG B w w':=by
 obtain ⟨g,cap,rfl,hgD,hBg⟩:=h.slice (by omega);obtain ⟨a',cap',ea,hfin⟩:=h.files;have d4:=pA.cells h.cell4;have d5:=pA.cells h.cell5;have hne:=pA.there w;have HD:Hid _:=h;have HF:Hid (kA w (some ⟨g,0,none⟩) fs):=by
  simp only [Value.slice.injEq] at ea;obtain ⟨rfl,_⟩:=ea;exact hfin
 have hw1:IntKind.i64.wrap (c - (aB fs:Int))=c - (aB fs:Int):=by rw [IntKind.wrap_i64];omega
 have HFx:Hid (∀x:pA w,kA x.w' (some ⟨g,0,none⟩) fs):=fun x=>HF.out.later x.h;have HDx:Hid (∀x:pA w,dB x.w' B D fs c k cr fl dn (.slice (some ⟨g,0,none⟩) fs.length cap)):=fun x=>HD.out.later x.h;have hml:fs.length≤maxLen:=by simp [maxLen];omega
 have hsl:aB fs≤1000000000:=by omega
 clear h ea hfin;by_cases hf:c - (aB fs:Int)<(x.size:Int)
 ·go_enter Tryz.func169,Tryz.ntmps169;go_wp2_with fail;refine fA (by kernel_rfl) (by kernel_rfl) ?_;repeat (go_big_quiet_step (first | (go_at_call 125;exact oA (yG _ _ _ _ (HFx.out _) hml hsl))))
  refine wpQuiet_nil ?_;rintro _ ⟨y,rfl⟩;have HY:Hid _:=y.h;have HZ:Hid _:=HDx.out y;have hB:=HD.out.size;clear d4 d5 hne HDx HFx;generalize y.w'=W at *;clear y;go_wp2;go_ret;exact ⟨Or.inl ⟨by omega,rfl,HZ.out⟩,vG.of HY.out hB⟩
 ·go_enter Tryz.func169,Tryz.ntmps169;go_wp2_with fail;refine fA (by kernel_rfl) (by kernel_rfl) ?_;repeat (go_big_quiet_step (first | (go_at_call 125;exact oA (yG _ _ _ _ (HFx.out _) hml hsl))))
  refine wpQuiet_nil ?_;rintro _ ⟨y,rfl⟩;have HY:Hid _:=y.h;have HZ:Hid _:=HDx.out y;have hB:=HD.out.size;have e4:=(HDx.out y).cell4;clear d4 d5 hne HDx HFx;generalize y.w'=W at *;clear y;obtain ⟨cur,_,hblk,hnc,hcm,hcs,hrows⟩:=aH HZ.out.row;have hr1:=(hrows i hi).2.1;rw [Nat.zero_add] at hr1;have hdl:fs[i].data.size≤aB fs:=by
   have h1:=nF fs i hi;have h2:=xE fs (i+1);omega
  have HW:Hid (Calls Tryz.prog 210 #[.pointer (some ⟨g,i * 3,none⟩),.string x] W fun e w'=>e=.returned (.tuple #[])∧w'=W.setCell ⟨g,i * 3+1,none⟩ (.string (fs[i].data++x))):=aHp g (i * 3) cur 116 fs[i].data x W hblk hr1 (by omega);have HP:Hid (dB (W.setCell ⟨g,i * 3+1,none⟩ (.string (fs[i].data++x))) B D (fs.set i ⟨fs[i].name,fs[i].data++x,fs[i].synced⟩) c k cr fl dn (.slice (some ⟨g,0,none⟩) fs.length cap)):=
   HZ.out.put ((bE.refl _ _).setCell _ _) (hblk.set _ _) (by simp [hcs]) (aGy hi hrows _)
  have HB:Hid (vG B w (W.setCell ⟨g,i * 3+1,none⟩ (.string (fs[i].data++x)))):=(vG.of HY.out hB).set hblk (Or.inl rfl) (by omega) _;clear hblk hrows hr1;go_wp2_with fail;refine HW.out.mono ?_;rintro e w3 ⟨rfl,rfl⟩;go_wp2;go_ret;exact ⟨Or.inr ⟨by omega,rfl,HP.out⟩,HB.out⟩
theorem vG.removed {w w':World}{B D:Nat}{fs:List eA}{c k cr fl:Int}{dn:Bool}{v:Value} (h:dB w B D fs c k cr fl dn v) (hk:oC (fun k=>k=D∨v.ownBlock=some k) w w'):vG B w w':=
 ⟨hk.below (fun g e=>by
  rcases e with e | e
  ·rw [e];exact h.from'
  ·exact lH h.row g e) h.size,mK.keeps hk (fun g e=>by
  rcases e with e | e
  ·rw [e];exact ⟨_,_,h.blk,Or.inr rfl⟩
  ·obtain ⟨cur,hc⟩:=GF h.row g e;exact ⟨cur,_,hc,Or.inl rfl⟩)⟩
theorem dB.inserted {w w1:World}{B D i:Nat}{fs:List eA}{f:eA}{c k cr fl:Int}{dn:Bool}{v v':Value} (h:dB w B D fs c k cr fl dn v) (hi:i≤fs.length)
 (hr:w1.ownsRow B 116 3 v' (fs.length+1) (flat (iI fs i f))) (hk:oC (fun k=>v.ownBlock=some k) w w1) (hat:v'.ownBlock=v.ownBlock∨v'.ownBlock=some w.heap.size):
 dB (w1.setCell ⟨D,4,none⟩ v') B D (iI fs i f) c k cr fl dn v'∧vG B w (w1.setCell ⟨D,4,none⟩ v'):=by
 have hD:=aA h.blk;have hap:∀g,v'.ownBlock=some g→g≠D:=fun g hg=>by
  rcases hat with e | e
  ·exact h.apart g (by rw [←e];exact hg)
  ·rw [e] at hg;simp at hg;omega
 have hb:=h.blk.keeps hk (fun e=>h.apart D e rfl);refine ⟨⟨h.from',?_,?_,hap⟩,?_⟩
 ·have:=hb.set 4 v';simpa using this
 ·rw [xL fs i f hi];exact kU hr hap _ _
 ·have h1:vG B w w1:=⟨hk.below (fun g hg=>lH h.row g hg) h.size,mK.keeps hk (fun g hg=>by
   obtain ⟨cur,hc⟩:=GF h.row g hg;exact ⟨cur,_,hc,Or.inl rfl⟩)⟩
  exact h1.set hb (Or.inr rfl) h.from' _
theorem YO (B D:Nat) (fs:List eA) (c k cr fl:Int) (dn:Bool) (v:Value) (nm:ByteArray) (w:World) (h:dB w B D fs c k cr fl dn v) (hasc:pR fs) (hlen:fs.length≤1048576):
 Calls Tryz.prog 167 #[.pointer (some ⟨D,0,none⟩),.string nm] w fun e w'=>∃i v',mO fs nm i∧vG B w w'∧
  ((mG fs nm i=true∧e=.returned (xF 5)∧dB w' B D fs c k cr fl dn v')∨(mG fs nm i=false∧1000≤fs.length∧e=.returned (xF 3)∧dB w' B D fs c k cr fl dn v')∨
    (mG fs nm i=false∧fs.length<1000∧e=.returned (xF 0)∧dB w' B D (iI fs i ⟨nm,ByteArray.empty,0⟩) c k cr fl dn v')):=by
 obtain ⟨a,cap,rfl,hfin⟩:=h.files;have d4:=h.cell4;have HD:Hid _:=h;have HF:Hid (kA w a fs):=hfin;have HA:Hid (pR fs):=hasc;clear h hfin hasc;go_enter Tryz.func167,Tryz.ntmps167;go_wp2_with fail;refine (wQ a cap fs nm _ HF.out HA.out hlen).mono ?_;rintro e w1 ⟨i,hp,rfl,hb1⟩;have HP:Hid (mO fs nm i):=hp;have hile:=hp.1;have HD1:Hid _:=HD.out.later hb1;have HB1:Hid _:=vG.of hb1 HD.out.size;have e4:=HD1.out.cell4;clear d4 hb1 hp;cases hq:mG fs nm i with
 | true=>
   have HQ:Hid _:=hq;clear hq;go_wp2;go_ret;exact ⟨i,_,HP.out,HB1.out,Or.inl ⟨HQ.out,rfl,HD1.out⟩⟩
 | false=>
   have HQ:Hid _:=hq;clear hq;by_cases hm:(1000:Int)≤(fs.length:Int)
   ·go_wp2;go_ret;exact ⟨i,_,HP.out,HB1.out,Or.inr (Or.inl ⟨HQ.out,by omega,rfl,HD1.out⟩)⟩
   ·go_wp2_with fail;have hD2:=HD1.out.later (bA w1 (.cells #[.string nm,.string ByteArray.empty,.int .i64 0] 116));refine (FF B w1.heap.size i (.slice a fs.length cap) fs ⟨nm,ByteArray.empty,0⟩ _ hD2.row (heap_alloc_new _ _) (fun e=>by have:=eK HD1.out.row _ e;omega) hile hlen hD2.size).mono ?_;rintro e w2 ⟨v',rfl,hrow,hk,hat⟩;obtain ⟨hdr,hbel⟩:=hD2.inserted hile hrow hk hat;have hblk:=hD2.blk.keeps hk (fun e=>hD2.apart D e rfl);obtain ⟨a',cap',rfl⟩:=GJ hrow;have g4:=hblk.cell 4;have f4:=hblk.free 4;simp only [List.getElem?_toArray,List.getElem?_cons_zero,List.getElem?_cons_succ] at g4;have HR:Hid _:=hdr;have HS:Hid _:=(HB1.out.on (bA _ _) HD1.out.size).trans hbel;clear hdr hbel hblk hrow hk hat hD2 e4;go_wp2;go_ret;exact ⟨i,_,HP.out,HS.out,Or.inr (Or.inr ⟨HQ.out,by omega,rfl,HR.out⟩)⟩
theorem aHa {cur:Array Value}{fs:List eA}{i:Nat} (hi:i<fs.length) (h:∀m (hm:m<fs.length),kE cur 0 m fs[m]) (f:eA):
 ∀m (hm:m<fs.length),kE (((cur.setIfInBounds (i * 3) (.string f.name)).setIfInBounds (i * 3+1) (.string f.data)).setIfInBounds (i * 3+2) (.int .i64 f.synced)) 0 m (if m=i then f else fs[m]):=by
 intro m hm;by_cases e:m=i
 ·subst e;rw [if_pos rfl];have l3:=(Array.getElem?_eq_some_iff.1 (h m hm).2.2).1;have:=kE.made cur 0 m f l3;simpa only [Nat.zero_add] using this
 ·rw [if_neg e];exact (((h m hm).set (by omega) _).set (by omega) _).set (by omega) _
theorem aAn (B D i:Nat) (fs:List eA) (c k cr fl:Int) (dn:Bool) (v:Value) (to:ByteArray) (w:World) (h:dB w B D fs c k cr fl dn v) (hi:i<fs.length) (hasc:pR (fs.eraseIdx i)) (hlen:fs.length≤1048576):
 Calls Tryz.prog 172 #[.pointer (some ⟨D,0,none⟩),.int .i64 i,.string to] w fun e w'=>e=.returned (.tuple #[])∧∃j v',mO (fs.eraseIdx i) to j∧vG B w w'∧
  ((mG (fs.eraseIdx i) to j=true∧dB w' B D ((fs.eraseIdx i).set j ⟨to,fs[i].data,fs[i].synced⟩) c k cr fl dn v')∨(mG (fs.eraseIdx i) to j=false∧dB w' B D (iI (fs.eraseIdx i) j ⟨to,fs[i].data,fs[i].synced⟩) c k cr fl dn v')):=by
 obtain ⟨g,cap,rfl,hgD,hBg⟩:=h.slice (by omega);obtain ⟨cur,_,hblk,hnc,hcm,hcs,hrows⟩:=aH h.row;obtain ⟨r0,r1,r2⟩:=hrows i hi;rw [Nat.zero_add] at r0 r1 r2;have c0:=hblk.cell (i * 3);have c1:=hblk.cell (i * 3+1);have c2:=hblk.cell (i * 3+2);rw [r0] at c0;rw [r1] at c1;rw [r2] at c2;have d4:=h.cell4;have HD:Hid _:=h;have HA:Hid (pR (fs.eraseIdx i)):=hasc;have hgl:=aA hblk;have hDl:=aA h.blk;clear h hasc hblk hrows r0 r1 r2;go_enter Tryz.func172,Tryz.ntmps172;go_wp2_with fail;refine (GH B D i fs c k cr fl dn _ _ (HD.out.later (bA w (.cells #[.string to,.string fs[i].data,.int .i64 fs[i].synced] 116))) hi hlen).mono ?_;rintro e w1 ⟨rfl,v1,hdr,hob,hk⟩;have HF1:Hid (lA w1 w.heap.size #[.string to,.string fs[i].data,.int .i64 fs[i].synced] 116):=lA.keeps (heap_alloc_new _ _) hk (fun e=>by
  rcases e with e | e
  ·omega
  ·simp [Value.ownBlock] at e;omega)
 have HB1:Hid _:=(vG.of (bA _ _) HD.out.size).trans (vG.removed (HD.out.later (bA _ _)) hk);have hl1:(fs.eraseIdx i).length≤1048576:=by rw [List.length_eraseIdx,if_pos hi];omega
 have hv1:v1.ownBlock=some g:=hob;obtain ⟨a1,cap1,rfl,hfin⟩:=hdr.files;have HV1:Hid _:=hv1;have HD1:Hid _:=hdr;have HFI:Hid (kA w1 a1 (fs.eraseIdx i)):=hfin;have e4:=hdr.cell4;clear c0 c1 c2 d4 hdr hk hfin hob hv1;generalize hes:fs.eraseIdx i=es at *;go_wp2_with fail;refine (wQ a1 cap1 es to _ HFI.out HA.out hl1).mono ?_;rintro e w2 ⟨j,hp,rfl,hb2⟩;have HP:Hid (mO es to j):=hp;have hjle:=hp.1;have HD2:Hid _:=HD1.out.later hb2;have HB2:Hid _:=HB1.out.on hb2 HD1.out.size;have HF2:Hid (lA w2 w.heap.size #[.string to,.string fs[i].data,.int .i64 fs[i].synced] 116):=HF1.out.later hb2;have g4:=HD2.out.cell4;have x0:=HF2.out.cell 0;have x1:=HF2.out.cell 1;have x2:=HF2.out.cell 2;simp only [List.getElem?_toArray,List.getElem?_cons_zero,List.getElem?_cons_succ] at x0 x1 x2;clear e4 hb2 hp HFI HD1 HB1 HF1;cases hq:mG es to j with
 | true=>
   have HQ:Hid _:=hq;have hjl:j<es.length:=by
    rcases Nat.lt_or_ge j es.length with h | h
    ·exact h
    ·rw [mG,List.getElem?_eq_none h] at hq;exact absurd hq (by simp)
   obtain ⟨g',cap',ev,_,_⟩:=HD2.out.slice (by omega);obtain rfl:g'=g:=by have:=HV1.out;rw [ev] at this;simpa [Value.ownBlock] using this
   simp only [Value.slice.injEq] at ev;obtain ⟨rfl,_,rfl⟩:=ev;obtain ⟨cur2,_,hblk,hnc2,hcm2,hcs2,hrows⟩:=aH HD2.out.row;have hsz2:j * 3+2<cur2.size:=by omega
   obtain ⟨y0,z0⟩:=hblk.there (j:=j * 3) (by omega);obtain ⟨y1,z1⟩:=hblk.there (j:=j * 3+1) (by omega);obtain ⟨y2,z2⟩:=hblk.there (j:=j * 3+2) (by omega);have k0:=hblk.free (j * 3);have k1:=hblk.free (j * 3+1);have k2:=hblk.free (j * 3+2);have hbut3:bE g' w2 (((w2.setCell ⟨g',j * 3,none⟩ (.string to)).setCell ⟨g',j * 3+1,none⟩ (.string fs[i].data)).setCell ⟨g',j * 3+2,none⟩ (.int .i64 fs[i].synced)):=(((bE.refl _ _).setCell _ _).setCell _ _).setCell _ _;have HPUT:Hid (dB (((w2.setCell ⟨g',j * 3,none⟩ (.string to)).setCell ⟨g',j * 3+1,none⟩ (.string fs[i].data)).setCell ⟨g',j * 3+2,none⟩ (.int .i64 fs[i].synced)) B D (es.set j ⟨to,fs[i].data,fs[i].synced⟩) c k cr fl dn (.slice (some ⟨g',0,none⟩) es.length cap1)):=
    HD2.out.put hbut3 (((hblk.set (j * 3) (.string to)).set (j * 3+1) (.string fs[i].data)).set (j * 3+2) (.int .i64 fs[i].synced)) (by simp [hcs2]) (aHa hjl hrows ⟨to,fs[i].data,fs[i].synced⟩)
   have HBL:Hid _:=HB2.out.but hbut3 hblk (Or.inl rfl) hBg HD2.out.size;clear hq hblk hrows hbut3;go_wp2_with fail;go_region
   go_wp2;refine bodyPost_ret (results_none rfl _ _ _) rfl ?_;subst hes;exact ⟨rfl,j,_,HP.out,HBL.out.on (Below.refl _ _).drew HPUT.out.size,Or.inl ⟨HQ.out,HPUT.out.later (Below.refl _ _).drew⟩⟩
 | false=>
   have HQ:Hid _:=hq;have hap2:(Value.slice a1 es.length cap1).ownBlock≠some D:=fun e=>HD2.out.apart D e rfl;have hap3:(Value.slice a1 es.length cap1).ownBlock≠some w.heap.size:=fun e=>by rw [HV1.out] at e;simp at e;omega
   have HDD:Hid (dB (w2.drew.alloc (.cells #[.string to,.string fs[i].data,.int .i64 fs[i].synced] 116)) B D es c k cr fl dn (.slice a1 es.length cap1)):=(HD2.out.later (Below.refl _ _).drew).later (bA _ _);clear hq;go_wp2_with fail;have hDl2:=aA HD2.out.blk;have hFl2:=aA HF2.out;have hne1:¬(D=w2.heap.size):=by omega
   have hne2:¬(w.heap.size=w2.heap.size):=by omega
   go_region_with (go_at_call 206;refine (FF B w2.heap.size j (.slice a1 es.length cap1) es ⟨to,fs[i].data,fs[i].synced⟩ _ HDD.out.row (heap_alloc_new _ _) (fun e=>by have:=eK HD2.out.row _ e;omega) hjle hl1 HDD.out.size).mono ?_;rintro e w7 ⟨v',rfl,hrow,hk7,hat⟩;obtain ⟨a7,cap7,rfl⟩:=GJ hrow;have q4:=(HDD.out.blk.keeps hk7 hap2).cell 4;have q5:=(HDD.out.blk.keeps hk7 hap2).free 4;simp only [List.getElem?_toArray,List.getElem?_cons_zero,List.getElem?_cons_succ] at q4)
   all_goals (
    go_wp2
    go_end0
    subst hes
    obtain ⟨hdr,hbel⟩:=HDD.out.inserted hjle hrow hk7 hat
    exact ⟨rfl,j,_,HP.out,((HB2.out.on (Below.refl _ _).drew HD2.out.size).on (bA _ _) HD2.out.size).trans hbel,Or.inr ⟨HQ.out,hdr⟩⟩)
theorem iZ {S:Nat→Prop}{w w':World}{B:Nat}{e:TypeId}{size:Nat}{v:Value}{n:Nat}{xs:List Value} (h:w.ownsRow B e size v n xs) (hk:oC S w w') (hS:∀g,v.ownBlock=some g→¬S g):w'.ownsRow B e size v n xs:=by
 obtain ⟨h1,h2⟩:=h;refine ⟨h1,?_⟩;rcases h2 with h2 | ⟨g,cap,cur,hv,hB,hg,r⟩
 ·exact Or.inl h2
 ·exact Or.inr ⟨g,cap,cur,hv,hB,(hk.block g (aA hg) (hS g (by rw [hv];rfl))).trans hg,r⟩
theorem dB.charged {w w':World}{B D:Nat}{fs:List eA}{c k k' cr fl:Int}{dn dn':Bool}{v:Value} (h:dB w B D fs c k cr fl dn v) (hb:bE D w w') (hblk:lA w' D #[.int .i64 k',.int .i64 cr,.int .i64 fl,.bool dn',v,.int .i64 c] 185):dB w' B D fs c k' cr fl dn' v:=
 ⟨h.from',hblk,iZ h.row (oC.but hb) (fun g hg e=>h.apart g hg e),h.apart⟩
def kG (fs:List eA) (c k cr fl:Int) (dn:Bool) (op:lO):Nat×List eA×Int×Bool:=
 if (wB k cr fl dn).1=0 then ((kK fs c op).1,(kK fs c op).2,(wB k cr fl dn).2) else ((wB k cr fl dn).1,fs,(wB k cr fl dn).2)
structure RK (w:World) (B D:Nat) (fs:List eA) (c k cr fl:Int) (dn:Bool) (v:Value) (op:lO):Prop where
 drive:dB w B D fs c k cr fl dn v
 asc:pR fs
 len:fs.length≤1000
 sum:(aB fs:Int)≤c
 cap:c≤1000000000
 k0:0≤k
 k1:k≤1000000000000000
def dW (w:World) (B D:Nat) (fs:List eA) (c k cr fl:Int) (dn:Bool) (v:Value) (op:lO):Prop:=
 Calls Tryz.prog 126 #[.pointer (some ⟨D,0,none⟩),.agg #[.int .i64 op.kind,.string op.name,.string op.to,.string op.data,.int .i64 op.size]] w fun e w'=>
  e=.returned (xF (kG fs c k cr fl dn op).1)∧Below B w w'∧(op.kind≤6→mK w w')∧∃v',dB w' B D (kG fs c k cr fl dn op).2.1 c (kG fs c k cr fl dn op).2.2.1 cr fl (kG fs c k cr fl dn op).2.2.2 v'∧(op.kind=4→v'=v)
theorem iW (k cr fl:Int) (dn:Bool):(wB k cr fl dn).1=0∨(wB k cr fl dn).1=1∨(wB k cr fl dn).1=2:=by
 unfold wB;split
 ·simp
 ·split
  ·simp
  ·split
   ·simp
   ·split<;>simp
theorem AG {fs:List eA}{c:Int}{op:lO} (hk:op.kind≠1) (hq:mG fs op.name (vA op.name fs)=false):kK fs c op=(4,fs):=by
 unfold kK;simp only [if_neg hk];split
 ·rfl
 ·rw [if_pos hq]
theorem KQ {fs:List eA}{c:Int}{op:lO} (hk:op.kind≠1) (hq:mG fs op.name (vA op.name fs)=true) (hi:vA op.name fs<fs.length):
 kK fs c op=if op.kind=2 then (if c<aB fs+op.data.size then (3,fs) else (0,fs.set (vA op.name fs) ⟨fs[vA op.name fs].name,fs[vA op.name fs].data++op.data,fs[vA op.name fs].synced⟩))
  else if op.kind=3 then (0,fs.set (vA op.name fs) ⟨fs[vA op.name fs].name,fs[vA op.name fs].data,fs[vA op.name fs].data.size⟩)
  else if op.kind=4 then (if mA op.size 0 fs[vA op.name fs].data.size=true then (0,fs.set (vA op.name fs) ⟨fs[vA op.name fs].name,fs[vA op.name fs].data.extract 0 op.size.toNat,op.size⟩) else (6,fs))
  else if op.kind=5 then (0,qF (fs.eraseIdx (vA op.name fs)) ⟨op.to,fs[vA op.name fs].data,fs[vA op.name fs].synced⟩)
  else (0,fs.eraseIdx (vA op.name fs)):=by
 unfold kK;simp only [if_neg hk,List.getElem?_eq_getElem hi,hq,Bool.true_eq_false,if_false]
theorem QJ (w:World) (B D:Nat) (fs:List eA) (c k cr fl:Int) (dn:Bool) (v:Value) (op:lO) (h:RK w B D fs c k cr fl dn v op) (hr:(wB k cr fl dn).1≠0):dW w B D fs c k cr fl dn v op:=by
 unfold dW;have HD:Hid _:=h.drive;have hk0:=h.k0;have hk1:=h.k1;have HA:Hid (pR fs):=h.asc;have hlen:=h.len;have hsum:=h.sum;have hcap:=h.cap;have E:Hid (kG fs c k cr fl dn op=((wB k cr fl dn).1,fs,(wB k cr fl dn).2)):=by show _=_;rw [kG,if_neg hr]
 have HC:Hid _:=Or.resolve_left (iW k cr fl dn) hr;clear HA hlen hsum hcap;clear h hr;go_enter Tryz.func126,Tryz.ntmps126;go_wp2_with fail;refine (tQ D 185 v (.int .i64 c) k cr fl dn _ (HD.out.later (bA _ _)).blk hk0 hk1).mono ?_;rintro e w1 ⟨rfl,hbut,hblk⟩;have HD1:Hid _:=(HD.out.later (bA _ _)).charged hbut hblk;have HB1:Hid _:=vG.charge HD.out HD.out.size hbut;clear hbut hblk;generalize hcr:wB k cr fl dn=R at *;obtain ⟨code,k',dn'⟩:=R;have HC2:Hid (code=1∨code=2):=HC.out;clear HC;rcases HC2.out with rfl | rfl
 ·simp only [xF];go_wp2;go_ret;rw [E.out];exact ⟨rfl,HB1.out.below,fun _=>HB1.out.other,v,HD1.out,fun _=>rfl⟩
 ·simp only [xF];go_wp2;go_ret;rw [E.out];exact ⟨rfl,HB1.out.below,fun _=>HB1.out.other,v,HD1.out,fun _=>rfl⟩
theorem WZ (w:World) (B D:Nat) (fs:List eA) (c k cr fl:Int) (dn:Bool) (v:Value) (op:lO) (h:RK w B D fs c k cr fl dn v op) (hr:(wB k cr fl dn).1=0) (hk:op.kind=1):dW w B D fs c k cr fl dn v op:=by
 unfold dW;have HD:Hid _:=h.drive;have hk0:=h.k0;have hk1:=h.k1;have HA:Hid (pR fs):=h.asc;have hlen:=h.len;have hsum:=h.sum;have hcap:=h.cap;have E:Hid (kG fs c k cr fl dn op=((kK fs c op).1,(kK fs c op).2,(wB k cr fl dn).2)):=by show _=_;rw [kG,if_pos hr]
 have HR:Hid _:=hr;have ED:Hid (kK fs c op=if mG fs op.name (vA op.name fs)=true then (5,fs) else if 1000≤fs.length then (3,fs) else (0,iI fs (vA op.name fs) ⟨op.name,ByteArray.empty,0⟩)):=by show _=_;simp [kK,hk]
 clear hsum hcap;have HKD:Hid _:=hk;clear h hr hk;go_enter Tryz.func126,Tryz.ntmps126;go_wp2_with fail;refine (tQ D 185 v (.int .i64 c) k cr fl dn _ (HD.out.later (bA _ _)).blk hk0 hk1).mono ?_;rintro e w1 ⟨rfl,hbut,hblk⟩;have HD1:Hid _:=(HD.out.later (bA _ _)).charged hbut hblk;have HB1:Hid _:=vG.charge HD.out HD.out.size hbut;have hOD:¬(w.heap.size=D):=by have:=aA HD.out.blk;omega
 have HO:Hid (ND w1 w.heap.size op 110):=lA.keeps (S:=fun k=>k=D) (g:=w.heap.size) (heap_alloc_new w (.cells #[.int .i64 op.kind,.string op.name,.string op.to,.string op.data,.int .i64 op.size] 110)) (oC.but hbut) hOD;obtain ⟨o0,o1,o2,o3,o4⟩:=HO.out.cells;clear hbut hblk;rw [HR.out];simp only [xF];have hk:=HKD.out;clear o2 o3 o4;go_wp2_with fail;refine (YO B D fs c _ cr fl _ v op.name w1 HD1.out HA.out (by omega)).mono ?_;rintro e w2 ⟨i,v',hp,hb2,hcs⟩;obtain rfl:=hp.uniq (dI op.name HA.out);have HB2:Hid _:=HB1.out.trans hb2;clear hp hb2 o0 o1;rcases hcs with ⟨hq,rfl,hd⟩ | ⟨hq,hl,rfl,hd⟩ | ⟨hq,hl,rfl,hd⟩
 ·have EQ:Hid (kK fs c op=(5,fs)):=by show _=_;rw [ED.out,if_pos hq]
  have HD2:Hid _:=hd;clear hq hd;go_wp2;go_ret;rw [E.out,EQ.out];exact ⟨rfl,HB2.out.below,fun _=>HB2.out.other,v',HD2.out,fun h=>(by have:=HKD.out;omega)⟩
 ·have EQ:Hid (kK fs c op=(3,fs)):=by show _=_;rw [ED.out,if_neg (by rw [hq];simp),if_pos hl]
  have HD2:Hid _:=hd;clear hq hd;go_wp2;go_ret;rw [E.out,EQ.out];exact ⟨rfl,HB2.out.below,fun _=>HB2.out.other,v',HD2.out,fun h=>(by have:=HKD.out;omega)⟩
 ·have EQ:Hid (kK fs c op=(0,iI fs (vA op.name fs) ⟨op.name,ByteArray.empty,0⟩)):=by show _=_;rw [ED.out,if_neg (by rw [hq];simp),if_neg (by omega)]
  have HD2:Hid _:=hd;clear hq hd;go_wp2;go_ret;rw [E.out,EQ.out];exact ⟨rfl,HB2.out.below,fun _=>HB2.out.other,v',HD2.out,fun h=>(by have:=HKD.out;omega)⟩
theorem QI (w:World) (B D:Nat) (fs:List eA) (c k cr fl:Int) (dn:Bool) (v:Value) (op:lO) (h:RK w B D fs c k cr fl dn v op) (hr:(wB k cr fl dn).1=0) (hk:op.kind≠1) (hq:mG fs op.name (vA op.name fs)=false):dW w B D fs c k cr fl dn v op:=by
 unfold dW;have HD:Hid _:=h.drive;have hk0:=h.k0;have hk1:=h.k1;have HA:Hid (pR fs):=h.asc;have hlen:=h.len;have hsum:=h.sum;have hcap:=h.cap;have E:Hid (kG fs c k cr fl dn op=((kK fs c op).1,(kK fs c op).2,(wB k cr fl dn).2)):=by show _=_;rw [kG,if_pos hr]
 have HR:Hid _:=hr;have EQ:Hid (kK fs c op=(4,fs)):=AG hk hq;have HQ:Hid _:=hq;have hkb:(op.kind==1)=false:=by simpa using hk
 clear hsum hcap hq;clear h hr;go_enter Tryz.func126,Tryz.ntmps126;go_wp2_with fail;refine (tQ D 185 v (.int .i64 c) k cr fl dn _ (HD.out.later (bA _ _)).blk hk0 hk1).mono ?_;rintro e w1 ⟨rfl,hbut,hblk⟩;have HD1:Hid _:=(HD.out.later (bA _ _)).charged hbut hblk;have HB1:Hid _:=vG.charge HD.out HD.out.size hbut;have hOD:¬(w.heap.size=D):=by have:=aA HD.out.blk;omega
 have HO:Hid (ND w1 w.heap.size op 110):=lA.keeps (S:=fun k=>k=D) (g:=w.heap.size) (heap_alloc_new w (.cells #[.int .i64 op.kind,.string op.name,.string op.to,.string op.data,.int .i64 op.size] 110)) (oC.but hbut) hOD;obtain ⟨o0,o1,o2,o3,o4⟩:=HO.out.cells;clear hbut hblk;rw [HR.out];simp only [xF];obtain ⟨a,cap,rfl,hfin⟩:=HD1.out.files;have p1:=pA.cells o1;have p4:=pA.cells HD1.out.cell4;have hne:=pA.there w1;have HFx:Hid (∀x:pA w1,kA x.w' a fs):=fun x=>hfin.later x.h;have HDx:Hid (∀x:pA w1,dB x.w' B D fs c (wB k cr fl dn).2.1 cr fl (wB k cr fl dn).2.2 (.slice a fs.length cap)):=fun x=>HD1.out.later x.h;have HOx:Hid (∀x:pA w1,ND x.w' w.heap.size op 110):=fun x=>lA.later HO.out x.h;have hl2:fs.length≤1048576:=by omega
 clear o1 o2 o3 o4 hfin HO;go_wp2_with fail;refine fA (by kernel_rfl) (by kernel_rfl) ?_;repeat (go_big_quiet_step (first | (go_at_call 168;exact oA (AM _ _ _ _ _ (HFx.out _) HA.out hl2))))
 refine wpQuiet_nil ?_;rintro _ ⟨y,rfl⟩;have HD2:Hid _:=HDx.out y;have HO2:Hid (ND y.w' w.heap.size op 110):=HOx.out y;have HB2:Hid _:=HB1.out.on y.h HD1.out.size;clear o0 p1 p4 hne HDx HFx HOx HD1 HB1;generalize y.w'=W at *;clear y;rw [HQ.out];clear HO2;go_wp2;go_ret;rw [E.out,EQ.out];exact ⟨rfl,HB2.out.below,fun _=>HB2.out.other,_,HD2.out,fun _=>rfl⟩
end Go.Proofs.YtcneojllbkacoaaGreatDoor
