import Derived.Test.YtcneojllbkacoaaGreatDoorJ17OpRcS
import Derived.Test.YtcneojllbkacoaaGreatDoorRows
set_option maxRecDepth 100000
set_option maxHeartbeats 8000000
namespace Go.Proofs.YtcneojllbkacoaaGreatDoor
open Go.RowKit
theorem eB.turned {S:Nat→Prop}{w w':World}{B:Nat}{a:Option Addr}{ts:List cA} (h:eB w B a ts) (ht:dA S w w') (hS:∀g,B≤g→g<w.heap.size→¬S g):eB w' B a ts:=by
 rcases h with h | ⟨g,o,cur,t,T,rfl,hB,hg,hT,h⟩
 ·exact Or.inl h
 ·have hk:=ht.block g (aA hg) (hS g hB (aA hg));exact Or.inr ⟨g,o,cur,t,T,rfl,hB,hk.trans hg,hT,fun i hi=>(h i hi).keep (fun j _=>World.cell?_of_block hk) fun g' hg' hB' _=>⟨ht.block g' hg' (hS g' hB' hg'),rfl⟩⟩
end Go.Proofs.YtcneojllbkacoaaGreatDoor
namespace Go.Proofs.YtcneojllbkacoaaGreatDoor
def uC (l:List rF) (k:Nat):Nat:=if 2 * k+2<l.length∧(rB l (2 * k+2)).t<(rB l (2 * k+1)).t then 2 * k+2 else 2 * k+1
theorem zH (l:List rF) (k:Nat):uC l k=2 * k+1∨uC l k=2 * k+2:=by
 unfold uC;split
 ·exact Or.inr rfl
 ·exact Or.inl rfl
theorem jW {l:List rF}{k i:Nat} (h0:0<i) (hi:i<l.length) (hp:(i - 1) / 2=k):uC l k<l.length∧(rB l (uC l k)).t≤(rB l i).t:=by
 have hi2:i=2 * k+1∨i=2 * k+2:=by omega
 unfold uC;split
 ·rename_i h;refine ⟨h.1,?_⟩;rcases hi2 with rfl | rfl
  ·omega
  ·exact Int.le_refl _
 ·rename_i h;refine ⟨by omega,?_⟩;rcases hi2 with rfl | rfl
  ·exact Int.le_refl _
  ·have:¬(rB l (2 * k+2)).t<(rB l (2 * k+1)).t:=fun h'=>h ⟨hi,h'⟩;omega
def oU (l:List rF) (k:Nat):Prop:=(∀i,0<i→i<l.length→(i - 1) / 2≠k→(rB l ((i - 1) / 2)).t≤(rB l i).t)∧∀i,0<i→i<l.length→(i - 1) / 2=k→0<k→(rB l ((k - 1) / 2)).t≤(rB l i).t
theorem oU.done {l:List rF}{k:Nat} (h:oU l k) (hk:¬(uC l k<l.length∧(rB l (uC l k)).t<(rB l k).t)):vH l:=by
 intro i h0 hi;by_cases e:(i - 1) / 2=k
 ·obtain ⟨h1,h2⟩:=jW h0 hi e;rw [e];have:¬(rB l (uC l k)).t<(rB l k).t:=fun h'=>hk ⟨h1,h'⟩;omega
 ·exact h.1 i h0 hi e
theorem oU.step {l:List rF}{k:Nat} (h:oU l k) (hc:uC l k<l.length) (hlt:(rB l (uC l k)).t<(rB l k).t):oU (fE l k (uC l k)) (uC l k):=by
 have h2:=zH l k;have hfirst:∀i,0<i→i<l.length→(i - 1) / 2=k→(rB l (uC l k)).t≤(rB l i).t:=fun i h0 hi e=>(jW h0 hi e).2;generalize uC l k=c at *;have hck:(c - 1) / 2=k:=by omega
 have hk:k<l.length:=by omega
 refine ⟨fun i hi0 hi hne=>?_,fun i hi0 hi hpi _=>?_⟩
 ·rw [xB] at hi;rw [vF hk hc,vF hk hc,if_neg hne];by_cases e1:i=c
  ·subst e1;rw [if_pos rfl,if_pos hck];omega
  ·rw [if_neg e1];by_cases e2:(i - 1) / 2=k
   ·rw [if_pos e2,if_neg (by omega:i≠k)];exact hfirst i hi0 hi e2
   ·rw [if_neg e2];by_cases e3:i=k
    ·subst e3;rw [if_pos rfl];exact h.2 c (by omega) hc hck hi0
    ·rw [if_neg e3];exact h.1 i hi0 hi e2
 ·rw [xB] at hi;rw [vF hk hc,vF hk hc,hck,if_neg (by omega:k≠c),if_pos rfl,if_neg (by omega:i≠c),if_neg (by omega:i≠k)];have:=h.1 i hi0 hi (by omega);rw [hpi] at this;exact this
def dJ:Nat→List rF→Nat→List rF
 | 0,l,_=>l
 | n+1,l,k=>if uC l k<l.length∧(rB l (uC l k)).t<(rB l k).t then dJ n (fE l k (uC l k)) (uC l k) else l
theorem bY:∀(n m k:Nat) (l:List rF),l.length - k≤n→l.length - k≤m→dJ n l k=dJ m l k
 | 0,0,_,_,_,_=>rfl
 | 0,m+1,k,l,hn,_=>by
   have:=zH l k;rw [dJ,dJ,if_neg fun h=>by omega]
 | n+1,0,k,l,_,hm=>by
   have:=zH l k;rw [dJ,dJ,if_neg fun h=>by omega]
 | n+1,m+1,k,l,hn,hm=>by
   have h2:=zH l k;rw [dJ,dJ];by_cases h:uC l k<l.length∧(rB l (uC l k)).t<(rB l k).t
   ·rw [if_pos h,if_pos h];exact bY n m _ _ (by rw [xB];omega) (by rw [xB];omega)
   ·rw [if_neg h,if_neg h]
def jJ (l:List rF) (k:Nat):List rF:=dJ (l.length - k) l k
theorem MJ {l:List rF}{k:Nat} (h:uC l k<l.length∧(rB l (uC l k)).t<(rB l k).t):jJ l k=jJ (fE l k (uC l k)) (uC l k):=by
 have h2:=zH l k;obtain ⟨n,hn⟩:∃n,l.length - k=n+1:=⟨l.length - k - 1,by have:=h.1;omega⟩
 unfold jJ;rw [hn,dJ,if_pos h];exact bY _ _ _ _ (by rw [xB];omega) (by rw [xB];omega)
theorem tV {l:List rF}{k:Nat} (h:¬(uC l k<l.length∧(rB l (uC l k)).t<(rB l k).t)):jJ l k=l:=by
 unfold jJ;cases l.length - k with
 | zero=>rfl
 | succ n=>rw [dJ,if_neg h]
theorem BJ:∀(n k:Nat) (l:List rF),l.length - k≤n→k≤l.length→oU l k→vH (jJ l k)∧(jJ l k).Perm l∧(jJ l k).length=l.length
 | 0,k,l,hn,hk,h=>by
   have hno:¬(uC l k<l.length∧(rB l (uC l k)).t<(rB l k).t):=fun hh=>by
    have:=zH l k;have:=hh.1;omega
   rw [tV hno];exact ⟨h.done hno,List.Perm.refl _,rfl⟩
 | n+1,k,l,hn,hk,h=>by
   by_cases hh:uC l k<l.length∧(rB l (uC l k)).t<(rB l k).t
   ·have h2:=zH l k;rw [MJ hh];obtain ⟨a,b,c⟩:=BJ n (uC l k) (fE l k (uC l k)) (by rw [xB];have:=hh.1;omega) (by rw [xB];have:=hh.1;omega) (h.step hh.1 hh.2);exact ⟨a,b.trans (wV (by have:=hh.1;omega) hh.1),c.trans (xB _ _ _)⟩
   ·rw [tV hh];exact ⟨h.done hh,List.Perm.refl _,rfl⟩
def CF (l:List rF):List rF:=(fE l 0 (l.length - 1)).take (l.length - 1)
def lK (l:List rF):List rF:=jJ (CF l) 0
theorem AD (l:List rF):(CF l).length=l.length - 1:=by simp [CF,xB]
theorem SS {l:List rF} (h:0<l.length){i:Nat} (hi:i<l.length - 1):rB (CF l) i=if i=0 then rB l (l.length - 1) else rB l i:=by
 have e:rB (CF l) i=rB (fE l 0 (l.length - 1)) i:=by simp [CF,rB,List.getD,List.getElem?_take_of_lt hi]
 rw [e,vF h (by omega),if_neg (by omega)]
theorem aMb {l:List rF} (h:vH l) (h0:0<l.length):oU (CF l) 0:=by
 refine ⟨fun i hi0 hi hne=>?_,fun _ _ _ _ hk=>absurd hk (Nat.lt_irrefl _)⟩;rw [AD] at hi;rw [SS h0 hi,SS h0 (by omega),if_neg hne,if_neg (by omega)];exact h i hi0 (by omega)
theorem aEg {l:List rF} (h:0<l.length):(rB l 0 :: CF l).Perm l:=by
 have hp:=wV (l:=l) (i:=0) (j:=l.length - 1) h (by omega);have hl:(fE l 0 (l.length - 1)).length=l.length:=xB _ _ _;have hlast:(fE l 0 (l.length - 1)).drop (l.length - 1)=[rB l 0]:=by
  have hi:l.length - 1<(fE l 0 (l.length - 1)).length:=by omega
  rw [List.drop_eq_getElem_cons hi,←wW hi,vF h (by omega),if_pos rfl,List.drop_eq_nil_of_le (by omega)]
 have e:CF l++[rB l 0]=fE l 0 (l.length - 1):=by rw [←hlast];exact List.take_append_drop _ _
 exact (List.perm_append_singleton (rB l 0) (CF l)).symm.trans (e ▸ hp)
theorem cL {l:List rF} (h:vH l) (h0:0<l.length):vH (lK l)∧(rB l 0 :: lK l).Perm l∧(lK l).length=l.length - 1:=by
 obtain ⟨a,b,c⟩:=BJ (CF l).length 0 (CF l) (by omega) (Nat.zero_le _) (aMb h h0);exact ⟨a,(b.cons _).trans (aEg h0),c.trans (AD l)⟩
theorem TQ {l:List rF} (h:vH l):∀(n i:Nat),i≤n→i<l.length→(rB l 0).t≤(rB l i).t
 | 0,i,hn,_=>by
   obtain rfl:i=0:=by omega
   exact Int.le_refl _
 | n+1,i,hn,hi=>by
   by_cases e:i=0
   ·subst e;exact Int.le_refl _
   ·exact Int.le_trans (TQ h n ((i - 1) / 2) (by omega) (by omega)) (h i (by omega) hi)
theorem aPk {l:List rF} (h:vH l){x:rF} (hx:x∈l):(rB l 0).t≤x.t:=by
 obtain ⟨i,hi,rfl⟩:=List.getElem_of_mem hx;have:=TQ h i i (Nat.le_refl _) hi;rw [wW hi] at this;exact this
end Go.Proofs.YtcneojllbkacoaaGreatDoor
namespace Go.Proofs.YtcneojllbkacoaaGreatDoor
open Go.RowKit
theorem aDc {os:Array Oper}{rest:List Oper}{o:Oper}{a:Act}{Q:Exit→Act→World→Prop}{w:World} (hgd:o.guard=none) (s x:Operand){TS T:TypeId}{z:Value}{sz by':Nat}
 (ho:o.op=.call { callee:=.builtin .append,args:=#[s,x],argTypes:=#[TS,TS] }) (ht:Tryz.prog.underlying TS=some (.slice T)) (hi:(Tryz.prog.info? T).map (fun i=>(i.zero,i.size,i.bytes))=some (some z,sz,by')) (hz:z.cells.size=sz) (h0:0<sz) (hb:by'≤100)
 {B n:Nat}{v:Value}{xs:List Value}{cs:Array Value} (hs:a.eval s=v) (hr:w.ownsRow B T sz v n xs){p:Nat} (hx:a.eval x=.slice (some ⟨p,0,none⟩) 1 1) (hp:w.heap.size=p) (hl:cs.size=sz) (h1:∀u∈cs.toList,u.oneCell'=true) (hn:n≤5000000) (hB:B≤w.heap.size)
 (h:∀g cap w',Hid (w'.ownsRow B T sz (.slice (some ⟨g,0,none⟩) (n+1) cap) (n+1) (xs++cs.toList))→Hid (dA (fun i=>B≤i∧v.ownBlock=some i) w w')→Hid (v.ownBlock=some g∨w.heap.size≤g)→wpList Tryz.prog os Q rest (a.put o.dst (.slice (some ⟨g,0,none⟩) (n+1) cap)) w'):
 wpList Tryz.prog os Q (o :: rest) a (w.alloc (.cells cs T)):=by
 subst hp;obtain ⟨i,hi,i0,i1,i2⟩:=info_parts hi;have hm:(n+1) * by'≤140737488355328:=Nat.le_trans (Nat.mul_le_mul (Nat.add_le_add_right hn 1) hb) (by decide)
 refine wpList_append_lies _ hgd s x _ ho B T i z sz by' ht hi i0 i1 i2 hz h0 v n xs hs (World.ownsRow.alloc hr _) ⟨w.heap.size,0,none⟩ 1 1 cs.toList hx (by simpa using hl) (by
  have:=World.news_of_block (cs:=cs) (t:=T) (fr:=(0,0)) (heap_alloc_new w (.cells cs T));simpa using this) h1 (by omega) (by simp [maxLen];omega) hm (by simp;omega) (w.heap.size+1) (by simp) ?_
 intro g cap w' hown hgrow hat _;exact h g cap w' hown ((dA.of (bA w (.cells cs T))).trans' ((dA.grown hgrow).mono fun i _ e=>⟨(hr.lt i e).1,e⟩)) (hat.imp_right fun e=>by rw [e];simp)
theorem aW {os:Array Oper}{rest:List Oper}{o:Oper}{a:Act}{Q:Exit→Act→World→Prop}{w:World} (hgd:o.guard=none) (s x:Operand){TS T:TypeId}{z:Value}{sz by':Nat}
 (ho:o.op=.call { callee:=.builtin .append,args:=#[s,x],argTypes:=#[TS,TS] }) (ht:Tryz.prog.underlying TS=some (.slice T)) (hi:(Tryz.prog.info? T).map (fun i=>(i.zero,i.size,i.bytes))=some (some z,sz,by')) (hz:z.cells.size=sz) (h0:0<sz) (hb:by'≤100)
 {B n:Nat}{v:Value}{xs:List Value}{cs:Array Value} (hs:a.eval s=v) (hr:w.ownsRow B T sz v n xs){p:Nat} (hx:a.eval x=.slice (some ⟨p,0,none⟩) 1 1) (hp:w.heap.size=p) (hl:cs.size=sz) (h1:∀u∈cs.toList,u.oneCell'=true) (hn:n≤5000000) (hB:B≤w.heap.size)
 (h:∀g cap w',Hid (w'.ownsRow B T sz (.slice (some ⟨g,0,none⟩) (n+1) cap) (n+1) (xs++cs.toList))→Hid (dA (fun i=>B≤i∧v.ownBlock=some i) w w')→wpList Tryz.prog os Q rest (a.put o.dst (.slice (some ⟨g,0,none⟩) (n+1) cap)) w'):
 wpList Tryz.prog os Q (o :: rest) a (w.alloc (.cells cs T)):=
 aDc hgd s x ho ht hi hz h0 hb hs hr hx hp hl h1 hn hB fun g cap w' h1 h2 _=>h g cap w' h1 h2
theorem aIb {a b:Bool} (h1:a=true) (h2:b=true):(a&&b)=true:=by rw [h1,h2];rfl
theorem CE:joinedFacts Tryz.pinned.checked.prog 3 Tryz.f3 Rows.fnExactNodeApplySpec Rows.fnExactNodeApplyRow=true:=by
 unfold joinedFacts;repeat' (with_reducible refine aIb ?_ ?_)
 all_goals (as_aux_lemma=>kernel_rfl)
end Go.Proofs.YtcneojllbkacoaaGreatDoor
namespace Go.Proofs.YtcneojllbkacoaaGreatDoor
open Go.ChangeShapes Go.WideShapes Go.ChangeAt Go.RowKit
theorem aDo:Tryz.prog.cellsOf 23=6:=by kernel_rfl
theorem YE:Tryz.prog.cellsOf 3=1:=by kernel_rfl
theorem VT {H:Type}{enc:TypeId×Value→H}{W:World}{r:Reach}{b0:Nat}{v:Value}{d:DataW H}{p:List MemPlace} (hv:Value.okWide Tryz.prog W r b0 23 v) (h:DataW.Trod enc Tryz.prog W 0 (fun _=>true) true 23 v d p):
 ∃c:eC,v=wG c:=by
 obtain ⟨cs,rfl,hsz⟩:=okWide_struct Tryz.underlying23 hv;obtain ⟨fuel,hf⟩:=h;obtain ⟨xs,n,_,_,_,hlen,hfl⟩:=DataW.trod_struct Tryz.underlying23 hf;rw [aDo] at hsz;obtain ⟨l⟩:=cs;simp at hsz;match l,hsz with
 | [c0,c1,c2,c3,c4,c5],_=>
   match xs,hlen with
   | [y0,y1,y2,y3,y4,y5],_=>
     have h0:=hfl 0 _ rfl;have h1:=hfl 1 _ rfl;have h2:=hfl 2 _ rfl;have h3:=hfl 3 _ rfl;have h4:=hfl 4 _ rfl;have h5:=hfl 5 _ rfl;simp [Value.cells,YE] at h0 h1 h2 h3 h4 h5;obtain ⟨i0,e0,_,_⟩:=DataW.trod_int Tryz.underlying3 h0;obtain ⟨i1,e1,_,_⟩:=DataW.trod_int Tryz.underlying3 h1;obtain ⟨i2,e2,_,_⟩:=DataW.trod_int Tryz.underlying3 h2;obtain ⟨i3,e3,_,_⟩:=DataW.trod_int Tryz.underlying3 h3;obtain ⟨i4,e4,_,_⟩:=DataW.trod_int Tryz.underlying3 h4;obtain ⟨i5,e5,_,_⟩:=DataW.trod_int Tryz.underlying3 h5;simp at e0 e1 e2 e3 e4 e5;exact ⟨⟨i0,i1,i2,i3,i4,i5⟩,by simp [wG,e0,e1,e2,e3,e4,e5]⟩
end Go.Proofs.YtcneojllbkacoaaGreatDoor
