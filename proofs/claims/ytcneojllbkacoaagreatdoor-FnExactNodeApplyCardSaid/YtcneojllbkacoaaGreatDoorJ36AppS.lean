import Derived.Test.YtcneojllbkacoaaGreatDoorJ32RecE
import Derived.Test.YtcneojllbkacoaaGreatDoorJ21OpCfg
import Derived.Test.YtcneojllbkacoaaGreatDoorJ29SSta
set_option maxRecDepth 100000
set_option maxHeartbeats 4000000
namespace Go.Proofs.YtcneojllbkacoaaGreatDoor
open Go.RowKit
def FW (k:Nat) (i:Nat):pC:=⟨((k+4 * i:Nat):Int),mt (k+4 * i+1),mt (k+4 * i+2),((k+4 * i+3:Nat):Int)⟩
def zP (k n:Nat):List pC:=(List.range n).map (FW k)
theorem CK (k n:Nat):(zP k n).length=n:=by simp [zP]
theorem PE (k n i:Nat) (h:i<(zP k n).length):(zP k n)[i]=FW k i:=by simp [zP]
theorem PD (a:Option Addr) (cap:Nat) (fs:List pC) (k B:Nat) (w:World) (hk:0<k) (hk2:k+4 * fs.length≤100000000) (hf:nQ w B a fs):
 Calls Tryz.prog 14 #[.slice a fs.length cap,.int .i64 (k:Int)] w fun e w'=>e=.returned (.int .i64 ((k+4 * fs.length:Nat):Int))∧qU w w' B a fs.length∧nQ w' B a (zP k fs.length):=by
 have hf3:fs=[]∨(0<fs.length∧∃g o cur t,a=some ⟨g,o,none⟩∧B≤g∧w.heap[g]?=some (.cells cur t (0,0))∧DG w g o fs):=by
  by_cases h0:fs=[]
  ·exact Or.inl h0
  ·rcases hf with h | h
   ·exact Or.inl h
   ·exact Or.inr ⟨List.length_pos_iff.2 h0,h⟩
 clear hf;rcases hf3 with rfl | ⟨hpos,g,o,cur,t,rfl,hB,hg,hfs⟩
 ·go_enter Tryz.func14,Tryz.ntmps14;go_wp2;go_loopw [1,5] (fun l i wr=>l=.int .i64 (k:Int)∧i=.int .i64 0∧wr=w) (fun _ i _=>0)
  case atStart=>exact ⟨rfl,rfl,rfl⟩
  case round=>
   obtain ⟨rfl,rfl,rfl⟩:=hrel;go_wp2;go_ret;exact ⟨rfl,Or.inl ⟨rfl,Below.refl _ _⟩,Or.inl rfl⟩
 have hrow:∀j (hj:j<fs.length),iM cur o j fs[j]:=GM hg hfs;have hsz2:=aGt hrow;have HG:Hid (lA w g cur t):=hg;clear hrow hg hfs;generalize fs.length=n at *;go_enter Tryz.func14,Tryz.ntmps14;go_wp2;go_loopw [1,5] (fun l i wr=>∃(j:Nat) (c:Array Value),j≤n∧i=.int .i64 j∧l=.int .i64 ((k+4 * j:Nat):Int)∧lA wr g c t∧c.size=cur.size∧(∀m,m<j→iM c o m (FW k m))∧bE g w wr) (fun _ i _=>n - (intOf i).toNat)
 case atStart=>exact ⟨0,cur,Nat.zero_le _,rfl,rfl,HG.out,rfl,fun m h=>absurd h (by omega),bE.refl _ _⟩
 case round=>
  obtain ⟨j,c,hj,rfl,rfl,hblk,hcs,hrows,hbut⟩:=hrel;have HBLK:Hid (lA wr g c t):=hblk;have HROWS:Hid (∀m,m<j→iM c o m (FW k m)):=hrows;have HCS:Hid (c.size=cur.size):=hcs;clear hblk hrows;by_cases hlt:j<n
  ·have hbd:o+j * 4+3<c.size:=by rcases hsz2 with h | h<;>omega
   clear hcs hsz2;obtain ⟨v0,d0⟩:=HBLK.out.there (j:=o+j * 4) (by omega);have f0:=HBLK.out.free (o+j * 4);go_wp2_with fail;refine (mE _ (k+4 * j+1) (by omega) _ (by omega) (by omega)).mono ?_;rintro e w1 ⟨rfl,hb1⟩;have hB1:=(HBLK.out.set (o+j * 4) (.int .i64 ((k+4 * j:Nat):Int))).later hb1;have HBU1:Hid (bE g w w1):=(hbut.setCell _ _).trans (bE.of hb1);obtain ⟨v1,d1⟩:=hB1.there (j:=o+j * 4+1) (by simp;omega);have f1:=hB1.free (o+j * 4+1);have HB1:Hid (lA w1 g (c.setIfInBounds (o+j * 4) (.int .i64 ((k+4 * j:Nat):Int))) t):=hB1;clear hB1 hb1 hbut d0 f0;go_wp2_with fail;refine (mE _ (k+4 * j+2) (by omega) _ (by omega) (by omega)).mono ?_;rintro e w2 ⟨rfl,hb2⟩;have hB2:=(HB1.out.set (o+j * 4+1) (.string (mt (k+4 * j+1)))).later hb2;have HBU2:Hid (bE g w w2):=(HBU1.out.setCell _ _).trans (bE.of hb2);obtain ⟨v2,d2⟩:=hB2.there (j:=o+j * 4+2) (by simp;omega);have f2:=hB2.free (o+j * 4+2);obtain ⟨v3,d3⟩:=hB2.there (j:=o+j * 4+3) (by simp;omega);have f3:=hB2.free (o+j * 4+3);have HB2:Hid (lA w2 g ((c.setIfInBounds (o+j * 4) (.int .i64 ((k+4 * j:Nat):Int))).setIfInBounds (o+j * 4+1) (.string (mt (k+4 * j+1)))) t):=hB2;clear hB2 d1 f1 hb2;go_wp2;refine ⟨⟨j+1,_,by omega,by go_num,by go_num,(HB2.out.set (o+j * 4+2) (.string (mt (k+4 * j+2)))).set (o+j * 4+3) (.int .i64 ((k+4 * j+3:Nat):Int)),by simp [HCS.out],?_,(HBU2.out.setCell _ _).setCell _ _⟩,by simp [intOf];omega⟩;intro m hm;by_cases e:m=j
   ·subst e;exact iM.made c o m (FW k m) hbd
   ·exact ((((HROWS.out m (by omega)).set (by omega) _).set (by omega) _).set (by omega) _).set (by omega) _
  ·go_wp2;go_ret;have e:j=n:=by omega
   subst e;refine ⟨jB (by omega),Or.inr ⟨hpos,g,o,rfl,hB,hbut⟩,Or.inr ⟨g,o,c,t,rfl,hB,HBLK.out,GG HBLK.out ?_⟩⟩;intro m hm;rw [PE];exact HROWS.out m (by rw [CK] at hm;exact hm)
end Go.Proofs.YtcneojllbkacoaaGreatDoor
namespace Go.Proofs.YtcneojllbkacoaaGreatDoor
open Go.RowKit Go.Maps
theorem aKe {H:Type}{P:Program}{w:World}{k:TypeId}{R:Value→Option (DataW H×List MemPlace)}{b n:Nat}{D:DataW H} (h:w.ownsMap P k R b n D):Maps.size D≤n:=by
 obtain ⟨es,clock,hb,F,hs,rfl⟩:=h;rw [size_eq,length_sorted,List.length_map,Array.length_toList];exact hs
theorem aCm {H:Type}{P:Program}{w:World}{k:TypeId}{R:Value→Option (DataW H×List MemPlace)}{b n n':Nat}{D D':DataW H} (h:w.ownsMap P k R b n D) (h':w.ownsMap P k R b n' D'):D=D':=by
 obtain ⟨es,clock,hb,F,hs,rfl⟩:=h;obtain ⟨es',clock',hb',F',hs',rfl⟩:=h';rw [hb] at hb';simp only [Option.some.injEq,Obj.map.injEq] at hb';rw [hb'.1]
theorem aKd {w:World}{cm n M:Nat}{D:DataW Unit}{m:ByteArray}{c d:Int} (h:w.ownsMap Tryz.prog 9 (plainElem Tryz.prog 3) cm n (D.put (kL m) (uF d))) (hT:Tidy D) (hD:Maps.size D≤M) (hat:D.atKey (kL m) (uF 0)=uF c) (hc:c≠0):w.ownsMap Tryz.prog 9 (plainElem Tryz.prog 3) cm M (D.put (kL m) (uF d)):=by
 have hh:has D (kL m)=true:=by
  cases e:has D (kL m) with
  | true=>rfl
  | false=>
    rw [atKey_of_not_has e] at hat;simp [uF] at hat;exact absurd hat.symm hc
 have:=II h;rw [Maps.size_put hT,hh,if_pos rfl] at this;exact this.mono hD
structure DF (w w1:World) (x:Nat) (lim:Int) (lm sm cm:Nat) (iv iv':Value) (hs:List rF):Prop where
 blk:lA w1 x #[.int .i64 lim,.map (some lm),.map (some sm),.map (some cm),iv'] 229
 row:w1.ownsRow 0 309 2 iv' (hs.length - 1) (kH (lK hs))
 same:iv'.ownBlock=iv.ownBlock
 turn:dA (fun k=>k=x∨iv.ownBlock=some k) w w1
theorem wM.top {w:World}{S:Nat→Prop}{x:Nat}{t:cA}{M lm sm cm:Nat}{iv:Value}{Q:List (gA×Nat)}{hs:List rF}{D:DataW Unit} (h:wM w S x t M lm sm cm iv Q hs D) (h0:0<hs.length):∃q∈Q,q.2=(rB hs 0).b:=by
 have:(rB hs 0).b∈Q.map (·.2):=h.perm.mem_iff.1 (List.mem_map.2 ⟨rB hs 0,by rw [wW h0];exact List.getElem_mem h0,rfl⟩);obtain ⟨q,hq,e⟩:=List.mem_map.1 this;exact ⟨q,hq,e⟩
theorem aGo {hs:List rF}{Q:List (gA×Nat)}{q:gA×Nat} (hh:vH hs) (h0:0<hs.length) (hp:(hs.map (·.b)).Perm (Q.map (·.2))) (hrq:oB (fun q:gA×Nat=>q.1.s) Q) (hq:q∈Q) (hb:q.2=(rB hs 0).b):
 ((lK hs).map (·.b)).Perm ((aD (fun q:gA×Nat=>q.1.s) q.1.s Q).map (·.2)):=by
 obtain ⟨_,p2,_⟩:=cL hh h0;have h1:(q.2 :: (lK hs).map (·.b)).Perm (Q.map (·.2)):=by
  rw [hb];exact (p2.map (·.b)).trans hp
 have h2:(q.2 :: (aD (fun q:gA×Nat=>q.1.s) q.1.s Q).map (·.2)).Perm (Q.map (·.2)):=(EG hrq hq).map (fun q:gA×Nat=>q.2);exact (List.perm_cons _).1 (h1.trans h2.symm)
theorem wM.dropped {w w1 w4:World}{S:Nat→Prop}{x:Nat}{t:cA}{M lm sm cm n:Nat}{iv iv':Value}{Q:List (gA×Nat)}{hs:List rF}{D:DataW Unit}{q:gA×Nat}{c:Nat} (h:wM w S x t M lm sm cm iv Q hs D) (h0:0<hs.length) (hq:q∈Q) (hb:q.2=(rB hs 0).b)
 (hp:DF w w1 x t.limit lm sm cm iv iv' hs) (t4:dA (fun k=>k=sm∨k=cm) w1 w4) (own2:w4.ownsMap Tryz.prog 9 wC sm n (DataW.del (kC (Q.map fun q=>(q.1.s,kD q.2))) (kL q.1.s)))
 (own4:w4.ownsMap Tryz.prog 9 (plainElem Tryz.prog 3) cm M (D.put (kL (bC q.1.s)) (uF c))) (hc:mF bC t.sers (bC q.1.s)=c+1):
 wM w4 S x ⟨t.name,t.limit,t.mets,aD (·.s) q.1.s t.sers⟩ M lm sm cm iv' (aD (fun q:gA×Nat=>q.1.s) q.1.s Q) (lK hs) (D.put (kL (bC q.1.s)) (uF c))∧dA S w w4:=by
 have nx1:=nB h.sers h.blk;have nx2:=nB h.cnts h.blk;have nx0:=nB h.lims h.blk;have ni0:=dE h.lims h.row;have ni1:=dE h.sers h.row;have ni2:=dE h.cnts h.row;have hrq:oB (fun q:gA×Nat=>q.1.s) Q:=by
  rw [←fO (key':=fun p:gA=>p.s) (fun q:gA×Nat=>q.1) (fun _=>rfl),h.q1];exact h.rs
 obtain ⟨p1,p2,p3⟩:=cL h.heap h0;have hq1:q.1∈t.sers:=by rw [←h.q1];exact List.mem_map_of_mem hq
 have hmem:∀p∈aD (fun q:gA×Nat=>q.1.s) q.1.s Q,p∈Q:=fun p hp=>(jN.1 hp).1;have hdel:DataW.del (kC (Q.map fun q=>(q.1.s,kD q.2))) (kL q.1.s)=kC ((aD (fun q:gA×Nat=>q.1.s) q.1.s Q).map fun q=>(q.1.s,kD q.2)):=
  OA (key:=fun q:gA×Nat=>q.1.s) (fun q=>kD q.2) q.1.s Q
 have hkeep:∀g,¬(g=x∨iv.ownBlock=some g)→¬(g=sm∨g=cm)→g<w.heap.size→w4.heap[g]?=w.heap[g]?:=fun g e1 e2 hg=>by
  rw [t4.block g (by have:=hp.turn.size;omega) e2,hp.turn.block g hg e1]
 refine ⟨?_,?_⟩
 ·exact {
   blk:=t4.blk hp.blk (fun e=>by rcases e with e | e;exact nx1 e.symm;exact nx2 e.symm)
   lims:=t4.map (hp.turn.map h.lims (fun e=>by rcases e with e | e;exact nx0 e;exact ni0 e)) (fun e=>by rcases e with e | e;exact h.d1 e;exact h.d2 e)
   sers:=by
    have:=II own2;rw [hdel,oI] at this;exact this
   cnts:=own4
   cnt:=fun m=>by
    have hd:=SM (met:=bC) h.rs hq1 m;by_cases e:bC q.1.s=m
    ·rw [if_pos e] at hd;rw [←e,atKey_put_same (k:=kL (bC q.1.s)) h.cnts.isMap trivial];rw [←e] at hd;have:mF bC (aD (·.s) q.1.s t.sers) (bC q.1.s)=c:=by omega
     rw [this]
    ·rw [if_neg e] at hd;rw [atKey_put_other (fun e'=>e (aJa e').symm),h.cnt m,hd];rfl
   q1:=by rw [uP (key':=fun p:gA=>p.s) (fun q:gA×Nat=>q.1) (fun _=>rfl),h.q1]
   cells:=fun p hp'=>by
    have hpq:=hmem p hp';refine (hkeep p.2 (fun e=>?_) (fun e=>?_) (aA (h.cells p hpq))).trans (h.cells p hpq)
    ·rcases e with e | e
     ·exact h.dx p hpq e
     ·exact (h.di _ e).2 p hpq rfl
    ·rcases e with e | e
     ·exact nB h.sers (h.cells p hpq) e.symm
     ·exact nB h.cnts (h.cells p hpq) e.symm
   row:=by
    rw [p3];exact t4.row hp.row (fun g hg e=>by
     rw [hp.same] at hg;rcases e with rfl | rfl
     ·exact ni1 hg
     ·exact ni2 hg)
   heap:=p1
   perm:=aGo h.heap h0 h.perm hrq hq hb
   early:=fun s hs' p hp' e=>h.early s (p2.mem_iff.1 (List.mem_cons_of_mem _ hs')) p (hmem p hp') e
   rm:=h.rm
   rs:=tK h.rs
   sx:=h.sx
   sl:=h.sl
   ss:=h.ss
   sc:=h.sc
   sq:=fun p hp'=>h.sq p (hmem p hp')
   si:=fun g hg=>h.si g (by rw [←hp.same];exact hg)
   d1:=h.d1
   d2:=h.d2
   d3:=h.d3
   nd:=h.nd.sublist (List.Sublist.map _ List.filter_sublist)
   dx:=fun p hp'=>h.dx p (hmem p hp')
   di:=fun g hg=>⟨(h.di g (by rw [←hp.same];exact hg)).1,fun p hp'=>(h.di g (by rw [←hp.same];exact hg)).2 p (hmem p hp')⟩ }
 ·refine (hp.turn.mono fun k _ e=>by rcases e with rfl | e;exact h.sx;exact h.si _ e).trans' (t4.mono fun k _ e=>?_);rcases e with rfl | rfl
  ·exact h.ss
  ·exact h.sc
theorem wM.again {w w1 w4:World}{S:Nat→Prop}{x:Nat}{t:cA}{M lm sm cm:Nat}{iv iv':Value}{Q:List (gA×Nat)}{hs:List rF}{D:DataW Unit}{q:gA×Nat}{g cap B:Nat} (h:wM w S x t M lm sm cm iv Q hs D) (h0:0<hs.length) (hq:q∈Q) (hb:q.2=(rB hs 0).b)
 (hp:DF w w1 x t.limit lm sm cm iv iv' hs)
 (hb4:lA w4 x #[.int .i64 t.limit,.map (some lm),.map (some sm),.map (some cm),.slice (some ⟨g,0,none⟩) ((lK hs).length+1) cap] 229)
 (hr4:w4.ownsRow 0 309 2 (.slice (some ⟨g,0,none⟩) ((lK hs).length+1) cap) ((lK hs).length+1) (kH (vM (lK hs) ⟨q.2,q.1.n⟩))) (hloc:iv'.ownBlock=some g∨w1.heap.size≤g) (t4:dA (fun k=>k=x∨iv'.ownBlock=some k) w1 w4) (hB:B≤w.heap.size) (hS:∀g,B≤g→w.heap.size≤g→S g):
 wM w4 S x t M lm sm cm (.slice (some ⟨g,0,none⟩) ((lK hs).length+1) cap) Q (vM (lK hs) ⟨q.2,q.1.n⟩) D∧dA S w w4:=by
 have nx1:=nB h.sers h.blk;have nx2:=nB h.cnts h.blk;have nx0:=nB h.lims h.blk;have ni0:=dE h.lims h.row;have ni1:=dE h.sers h.row;have ni2:=dE h.cnts h.row;obtain ⟨p1,p2,p3⟩:=cL h.heap h0;obtain ⟨r1,r2,r3⟩:=mV p1 ⟨q.2,q.1.n⟩;have hsz:=hp.turn.size;have t14:=hp.turn.trans' (t4.mono fun k _ e=>by rw [←hp.same];exact e);have qlt:=fun q hq=>aA (h.cells q hq);have hxl:=aA h.blk;have hloc':iv.ownBlock=some g∨w.heap.size≤g:=by
  rcases hloc with e | e
  ·exact Or.inl (by rw [←hp.same];exact e)
  ·exact Or.inr (by omega)
 refine ⟨?_,?_⟩
 ·exact { h with
   blk:=hb4
   lims:=t14.map h.lims (fun e=>by rcases e with e | e;exact nx0 e;exact ni0 e)
   sers:=t14.map h.sers (fun e=>by rcases e with e | e;exact nx1 e;exact ni1 e)
   cnts:=t14.map h.cnts (fun e=>by rcases e with e | e;exact nx2 e;exact ni2 e)
   cells:=fun p hp'=>t14.blk (h.cells p hp') (fun e=>by
    rcases e with e | e
    ·exact h.dx p hp' e
    ·exact (h.di _ e).2 p hp' rfl)
   row:=by rw [r3];exact hr4
   heap:=r1
   perm:=by
    refine (r2.map _).trans ?_;rw [List.map_cons];show (q.2 :: (lK hs).map (·.b)).Perm _;rw [hb];exact (p2.map (·.b)).trans h.perm
   early:=fun s hs' p hp' e=>by
    rcases List.mem_cons.1 (r2.mem_iff.1 hs') with rfl | hs'
    ·have:=lN h.nd hp' hq e;rw [this];exact Int.le_refl _
    ·exact h.early s (p2.mem_iff.1 (List.mem_cons_of_mem _ hs')) p hp' e
   si:=fun g' hg'=>by
    simp only [Value.ownBlock,Option.some.injEq] at hg';subst hg';rcases hloc' with e | e
    ·exact h.si g e
    ·exact hS g (by omega) e
   di:=fun g' hg'=>by
    simp only [Value.ownBlock,Option.some.injEq] at hg';subst hg';rcases hloc' with e | e
    ·exact h.di g e
    ·exact ⟨by omega,fun p hp'=>by have:=qlt p hp';omega⟩ }
 ·exact t14.mono fun k _ e=>by
   rcases e with rfl | e
   ·exact h.sx
   ·exact h.si _ e
theorem UX {hs:List rF}{u:Int} (hh:vH hs) (h0:0<hs.length) (ht:(rB hs 0).t≤u):(lK hs).countP (fun s=>decide (s.t≤u))+1=hs.countP (fun s=>decide (s.t≤u)):=by
 obtain ⟨_,p2,_⟩:=cL hh h0;rw [←p2.countP_eq,List.countP_cons_of_pos (by simpa using ht)]
theorem aFl {hs:List rF}{u:Int}{s:rF} (hh:vH hs) (hs':u<s.t):(vM hs s).countP (fun s=>decide (s.t≤u))=hs.countP (fun s=>decide (s.t≤u)):=by
 obtain ⟨_,q2,_⟩:=mV hh s;rw [q2.countP_eq,List.countP_cons_of_neg (by simp;omega)]
theorem aJj {R:Nat→Prop} (h:∃n,R n):∃m,R m∧∀k,R k→m≤k:=by
 obtain ⟨n,hn⟩:=h;induction n using Nat.strongRecOn with
 | _ n ih=>
   by_cases hk:∃k,k<n∧R k
   ·obtain ⟨k,hk,hr⟩:=hk;exact ih k hk hr
   ·exact ⟨n,hn,fun k hr=>Nat.le_of_not_lt fun hlt=>hk ⟨k,hlt,hr⟩⟩
theorem XA {P:Program}{w:World}{ops:Array Oper}{o:Oper}{a:Act}{K:Act→World→Prop}{Q:Exit→Act→World→Prop}{E:Prop}{f:FuncId}{args:Array Value} (hgd:o.guard=none) (hx:(execOp a.eval o).run P w=.ok (.enter f args) w)
 (h:Calls P f args w (fun e w'=>∃v,e=.returned v∧K (a.put o.dst v) w')):if Region.wanted o (yielded ops a.tmps)=true then Oper.wp P o a w K Q else E:=by
 have hw:Region.wanted o (yielded ops a.tmps)=true:=by simp [Region.wanted,hgd]
 rw [if_pos hw];unfold Oper.wp;rw [hx];refine h.mono ?_;rintro e w' ⟨v,rfl,hK⟩;exact hK
theorem aIr (x lm sm cm:Nat) (lim:Int) (iv:Value) (key:ByteArray) (Q:List (gA×Nat)) (D:DataW Unit) (M c:Nat) (w:World) (hX:lA w x #[.int .i64 lim,.map (some lm),.map (some sm),.map (some cm),iv] 229)
 (hs:w.ownsMap Tryz.prog 9 wC sm Q.length (kC (Q.map fun q=>(q.1.s,kD q.2)))) (hc:w.ownsMap Tryz.prog 9 (plainElem Tryz.prog 3) cm M D) (hat:D.atKey (kL (bC key)) (uF 0)=uF ((c+1:Nat):Int)) (hd:sm≠cm) (hk:key.size≤1000000000) (hM:M≤1000000000) (hc9:c≤1000000000) (hU:∀W,dA (·=sm) w W→wF W):
 Calls Tryz.prog 224 #[.pointer (some ⟨x,0,none⟩),.string key] w fun e w'=>e=.returned (.tuple #[])∧w'.ownsMap Tryz.prog 9 wC sm Q.length (DataW.del (kC (Q.map fun q=>(q.1.s,kD q.2))) (kL key))∧w'.ownsMap Tryz.prog 9 (plainElem Tryz.prog 3) cm M (D.put (kL (bC key)) (uF c))∧dA (fun k=>k=sm∨k=cm) w w':=by
 have HK:Hid (keyOf Tryz.prog 9 (.string key)=some (kL key)):=uI (by unfold maxLen;omega);have HKM:Hid _:=uI (kN key);have HMT:Hid (∀W,wF W→Calls Tryz.prog 188 #[.string key] W fun e w'=>e=.returned (.string (bC key))∧Below W.heap.size W w'):=fun W hW=>mS key W hk hW;obtain ⟨n1,hn1⟩:∃n1,n1=c+1:=⟨_,rfl⟩
 rw [←hn1] at hat;have hn2:(n1:Int) - 1=(c:Nat):=by omega
 have hn0:(n1:Int)≠0:=by omega
 have hn3:1≤(n1:Int):=by omega
 have hn9:n1≤1000000001:=by omega
 have hwc:IntKind.i64.wrap ((c:Nat):Int)=(c:Nat):=by
  simp only [IntKind.wrap,IntKind.bits,IntKind.signed];simp;omega
 have HLK:Hid (∀W,W.ownsMap Tryz.prog 9 (plainElem Tryz.prog 3) cm M D→(Instr.lookup 223 (.map (some cm)) (.string (bC key)) false).run Tryz.prog W=.ok (.int .i64 (n1:Int)) W):=fun W h=>VE h hat (kN key);have HX:=iA hX;have HS:=iA hs;have HC:=iA hc;have HAT:=iA hat;have HU:=iA hU;have nx1:=nB hs hX;have x2:w.cell? ⟨x,2,none⟩=some (.map (some sm)):=hX.cell 2;have HCS:Hid (∀W,W.ownsMap Tryz.prog 9 (plainElem Tryz.prog 3) cm M D→∃w4,(Instr.mapUpdate 223 (.map (some cm)) (.string (bC key)) (.int .i64 (c:Nat))).run Tryz.prog W=.ok () w4∧w4.ownsMap Tryz.prog 9 (plainElem Tryz.prog 3) cm M (D.put (kL (bC key)) (uF c))∧dA (·=cm) W w4):=fun W h=>by
  obtain ⟨w4,run4,own4,tn4⟩:=h.store zG Tryz.underlying223 (by unfold maxLen;omega) (val:=.int .i64 (c:Nat)) HKM.out (plainElem_int Tryz.underlying3 (WalkArith.wf_i64 (by omega)));exact ⟨w4,run4,aKd own4 (h.tidy zG) (aKe h) hat hn0,dA.mapped tn4⟩
 clear hX hs hc hat hU hn1;generalize bC key=mk at *;go_enter Tryz.func224,Tryz.ntmps224;go_upto_region 1 with (at_delete;refine wpList_delete_own _ rfl _ _ 224 9 rfl 232 zG Tryz.underlying224 wC sm _ _ rfl HS.out _ _ rfl HK.out ?_;intro w1 hown1 hturn1)
 have ht1:=dA.mapped hturn1;have O1:=iA hown1;have T1:=iA ht1;have X1:Hid (lA w1 x #[.int .i64 lim,.map (some lm),.map (some sm),.map (some cm),iv] 229):=ht1.blk HX.out nx1.symm;have C1:Hid (w1.ownsMap Tryz.prog 9 (plainElem Tryz.prog 3) cm M D):=ht1.map HC.out hd.symm;have U1:Hid (wF w1):=HU.out w1 ht1;have x3:w1.cell? ⟨x,3,none⟩=some (.map (some cm)):=X1.out.cell 3;clear hown1 hturn1 ht1 HX HS HC HU x2;have hd1:w1.drew.heap.size=w1.heap.size:=rfl;go_region_law (refine XA (f:=188) (args:=#[.string key]) rfl (by go_simp) ?_;refine (HMT.out _ (U1.out.later (Below.refl _ _).drew)).mono ?_;rintro e w2 ⟨rfl,hb2⟩;have b2:Below w1.heap.size w1 w2:=(rA (Below.refl w1.heap.size w1).drew hb2);have C2:=(dA.of (S:=fun _=>False) b2).map C1.out (fun e=>e);have hl:=HLK.out w2 C2;obtain ⟨w4,run4,own4,tn4⟩:=HCS.out w2 C2;have x4:w2.cell? ⟨x,3,none⟩=some (.map (some cm)):=(X1.out.later b2).cell 3;refine ⟨_,rfl,?_⟩)
 all_goals (go_wp2;go_end0)
 all_goals exact ⟨rfl,tn4.map ((dA.of (S:=fun _=>False) b2).map O1.out (fun e=>e)) hd,own4,((T1.out.mono fun i _ e=>Or.inl e).trans' (dA.of b2)).trans' (tn4.mono fun i _ e=>Or.inr e)⟩
end Go.Proofs.YtcneojllbkacoaaGreatDoor
namespace Go.Proofs.YtcneojllbkacoaaGreatDoor
open Go.RowKit
def aQd (w:World) (e:Ending) (t:cA):Prop:=∃a1 c1 a2 c2,e=.returned (.agg #[.string t.name,.int .i64 t.limit,.slice a1 t.mets.length c1,.slice a2 t.sers.length c2])∧sA w a1 t.mets∧sA w a2 t.sers
theorem OY (now:Int) (a:Option Addr) (cap:Nat) (ts:List cA) (name:ByteArray) (w:World) (hf:pB w a ts) (hlen:ts.length≤1000000000):
 Calls Tryz.prog 99 #[.agg #[.int .i64 now,.slice a ts.length cap],.string name] w fun e w'=>aQd w' e (xA ts name)∧Below w.heap.size w w':=by
 have HF:Hid (pB w a ts):=hf;have HTO:Hid (xA ts name=(cB (·.name) name ts).getD ⟨name,-1,[],[]⟩):=rfl;clear hf;go_enter Tryz.func99,Tryz.ntmps99;go_wp2;have R1:Hid _:=iA (by have:=lA.new (w.alloc (.cells #[.int .i64 now,.slice a ts.length cap] 43)) #[.string ⟨#[]⟩,.int .i64 0,.slice none 0 0,.slice none 0 0] 95;simpa using this);have B1:Hid (Below w.heap.size w ((w.alloc (.cells #[.int .i64 now,.slice a ts.length cap] 43)).alloc (.cells #[.string ⟨#[]⟩,.int .i64 0,.slice none 0 0,.slice none 0 0] 95))):=rA (bA _ _) (bA _ _);generalize hW:(w.alloc (.cells #[.int .i64 now,.slice a ts.length cap] 43)).alloc (.cells #[.string ⟨#[]⟩,.int .i64 0,.slice none 0 0,.slice none 0 0] 95)=W at *;clear hW;go_loopw [6,10] (fun _ i wr=>∃k:Nat,k≤ts.length∧i=.int .i64 k∧Hid (∀j (h:j<k) (h':j<ts.length),ts[j].name≠name)∧Below W.heap.size W wr) (fun _ i _=>ts.length - (intOf i).toNat)
 case atStart=>exact ⟨0,Nat.zero_le _,rfl,(fun j h=>absurd h (by omega)),Below.refl _ _⟩
 case round=>
  obtain ⟨k,hk,rfl,HN,hbel⟩:=hrel;have HB:Hid _:=hbel;have R2:Hid (lA wr (w.heap.size+1) #[.string ⟨#[]⟩,.int .i64 0,.slice none 0 0,.slice none 0 0] 95):=R1.out.later hbel;have hrl:=aA R2.out;have s0:wr.cell? ⟨w.heap.size+1,0,none⟩=some (.string ⟨#[]⟩):=R2.out.cell 0;have s1:wr.cell? ⟨w.heap.size+1,1,none⟩=some (.int .i64 0):=R2.out.cell 1;have s2:wr.cell? ⟨w.heap.size+1,2,none⟩=some (.slice none 0 0):=R2.out.cell 2;have s3:wr.cell? ⟨w.heap.size+1,3,none⟩=some (.slice none 0 0):=R2.out.cell 3;have u0:=R2.out.free 0;have u1:=R2.out.free 1;have u2:=R2.out.free 2;have u3:=R2.out.free 3;clear hbel R1;by_cases hlt:k<ts.length
  ·obtain ⟨b,o,a1,q1,a2,q2,rfl,hb,z0,z1,z2,z3,p1,p2⟩:=HF.out.at hlt;have Bw:Hid _:=rA B1.out HB.out;have t0:=(Bw.out.cell hb).trans z0;have t1:=(Bw.out.cell hb).trans z1;have t2:=(Bw.out.cell hb).trans z2;have t3:=(Bw.out.cell hb).trans z3;clear z0 z1 z2 z3;have HG:Hid (cB (·.name) name ts=if ts[k].name=name then some ts[k] else cB (·.name) name (ts.drop (k+1))):=by
    show _=_;rw [bV k HN.out,List.drop_eq_getElem_cons hlt,zN]
   have HSUC:Hid (ts[k].name≠name→∀j (h:j<k+1) (h':j<ts.length),ts[j].name≠name):=fun hne j hj hj'=>by
    by_cases e:j=k
    ·subst e;exact hne
    ·exact HN.out j (by omega) hj'
   have P1:Hid (sA w a1 ts[k].mets):=p1;have P2:Hid (sA w a2 ts[k].sers):=p2;clear p1 p2;generalize ts[k]=T at *;by_cases he:T.name=name
   ·have hb1:=(rC _ _).2 he;have HT:Hid (xA ts name=T):=by show _=_;rw [HTO.out,HG.out,if_pos he];rfl
    clear he;go_wp2;have HFB:Below w.heap.size w (((((wr.setCell ⟨w.heap.size+1,0,none⟩ (.string T.name)).setCell ⟨w.heap.size+1,1,none⟩ (.int .i64 T.limit)).setCell ⟨w.heap.size+1,2,none⟩ (.slice a1 T.mets.length q1)).setCell ⟨w.heap.size+1,3,none⟩ (.slice a2 T.sers.length q2)).alloc (.cells #[.string T.name,.int .i64 T.limit,.slice a1 T.mets.length q1,.slice a2 T.sers.length q2] 95)):=rA (((((Bw.out.setCell (by simp) _).setCell (by simp) _).setCell (by simp) _).setCell (by simp) _)) (bA _ _);refine bodyPost_ret (v:=.agg #[.string T.name,.int .i64 T.limit,.slice a1 T.mets.length q1,.slice a2 T.sers.length q2]) (by simp [results,Tryz.results99,go_sem,s0,s1,s2,s3,hrl]) rfl ⟨?_,HFB⟩;rw [HT.out];exact ⟨a1,q1,a2,q2,rfl,P1.out.later HFB,P2.out.later HFB⟩
   ·have hb1:=iC he;have HN2:Hid _:=HSUC.out he;clear he;go_wp2;exact ⟨⟨k+1,by omega,by go_num,HN2,rA HB.out (bA _ _)⟩,by simp [intOf];omega⟩
  ·have HT:Hid (xA ts name=⟨name,-1,[],[]⟩):=by
    show _=_;rw [HTO.out,bV k HN.out,List.drop_of_length_le (by omega)];rfl
   have Bw:Hid _:=rA B1.out HB.out;go_wp2;refine bodyPost_ret (v:=.agg #[.string name,.int .i64 (-1),.slice none 0 0,.slice none 0 0]) (by simp [results,Tryz.results99,go_sem,s0,s1,s2,s3]) rfl ⟨?_,(((((Bw.out.setCell (by simp) _).setCell (by simp) _).setCell (by simp) _).setCell (by simp) _))⟩;rw [HT.out];exact ⟨none,0,none,0,rfl,Or.inl rfl,Or.inl rfl⟩
theorem UW (c:eC) (t:cA) (a1 a2:Option Addr) (c1 c2:Nat) (m:ByteArray) (w:World) (p1:sA w a1 t.mets) (p2:sA w a2 t.sers) (hb:aLm t.sers) (l1:t.mets.length≤1000000000) (l2:t.sers.length≤1000000000):
 Calls Tryz.prog 100 #[wG c,.agg #[.string t.name,.int .i64 t.limit,.slice a1 t.mets.length c1,.slice a2 t.sers.length c2],.string m] w fun e w'=>e=.returned (.tuple #[.int .i64 (sE c t m).1,.int .i64 (sE c t m).2])∧Below w.heap.size w w':=by
 unfold wG;by_cases hm:m.toList.isEmpty=true
 ·have HV:Hid (sE c t m=(((t.sers.length:Nat):Int),if t.limit<0 then c.tl else t.limit)):=by show _=_;unfold sE;rw [if_pos hm]
  clear p1 p2 hb;by_cases hl:t.limit<0
  ·go_enter Tryz.func100,Tryz.ntmps100;go_wp2;go_ret2;exact ⟨gR (by rw [HV.out]) (by rw [HV.out];exact (if_pos hl).symm),rA (bA _ _) (bA _ _)⟩
  ·have HL:Hid (¬t.limit<0):=hl;go_enter Tryz.func100,Tryz.ntmps100;go_wp2;go_ret2;exact ⟨gR (by rw [HV.out]) (by rw [HV.out];have h0:=HL.out;exact (if_neg (by omega)).symm),rA (bA _ _) (bA _ _)⟩
 have hm':m.toList.isEmpty=false:=by simpa using hm
 have HV:Hid (sE c t m=(((mF bC t.sers m:Nat):Int),iE t.mets m c.ml)):=by show _=_;unfold sE;rw [if_neg hm]
 have P1:Hid (sA w a1 t.mets):=p1;have P2:Hid (sA w a2 t.sers):=p2;have HBP:Hid (aLm t.sers):=hb;clear p1 p2 hb hm;go_enter Tryz.func100,Tryz.ntmps100;go_wp2;have T1:Hid _:=iA (by have:=lA.new (w.alloc (.cells #[.int .i64 c.w,.int .i64 c.tl,.int .i64 c.ml,.int .i64 c.sh,.int .i64 c.ha,.int .i64 c.sg] 48)) #[.string t.name,.int .i64 t.limit,.slice a1 t.mets.length c1,.slice a2 t.sers.length c2] 95;simpa using this);have B1:Hid (Below w.heap.size w ((w.alloc (.cells #[.int .i64 c.w,.int .i64 c.tl,.int .i64 c.ml,.int .i64 c.sh,.int .i64 c.ha,.int .i64 c.sg] 48)).alloc (.cells #[.string t.name,.int .i64 t.limit,.slice a1 t.mets.length c1,.slice a2 t.sers.length c2] 95))):=rA (bA _ _) (bA _ _);generalize (w.alloc (.cells #[.int .i64 c.w,.int .i64 c.tl,.int .i64 c.ml,.int .i64 c.sh,.int .i64 c.ha,.int .i64 c.sg] 48)).alloc (.cells #[.string t.name,.int .i64 t.limit,.slice a1 t.mets.length c1,.slice a2 t.sers.length c2] 95)=W at *;go_loopw [9,11,32] (fun l _ i wr=>∃k:Nat,k≤t.mets.length∧i=.int .i64 k∧l=.int .i64 (iE (t.mets.take k) m c.ml)∧Below W.heap.size W wr) (fun _ _ i _=>t.mets.length - (intOf i).toNat)
 case atStart=>exact ⟨0,Nat.zero_le _,rfl,rfl,Below.refl _ _⟩
 case round=>
  obtain ⟨k,hk,rfl,rfl,hbel⟩:=hrel;have HB:Hid _:=hbel;clear hbel;by_cases hlt:k<t.mets.length
  ·obtain ⟨pb,po,rfl,hpl,z0,z1⟩:=(P1.out.later (rA B1.out HB.out)).at hlt;have HT:Hid (iE (t.mets.take (k+1)) m c.ml=if t.mets[k].s.toList==m.toList then t.mets[k].n else iE (t.mets.take k) m c.ml):=VK _ _ _ _ hlt;generalize t.mets[k]=P at *;generalize iE (t.mets.take k) m c.ml=L0 at *;by_cases he:(P.s.toList==m.toList)=true
   ·have HL:Hid (iE (t.mets.take (k+1)) m c.ml=P.n):=by show _=_;rw [HT.out,if_pos he]
    clear HT;go_wp2;exact ⟨⟨k+1,by omega,by go_num,by rw [HL.out],rA HB.out (bA _ _)⟩,by simp [intOf];omega⟩
   ·have he':(P.s.toList==m.toList)=false:=by simpa using he
    have HL:Hid (iE (t.mets.take (k+1)) m c.ml=L0):=by show _=_;rw [HT.out,if_neg he]
    clear HT he;go_wp2;exact ⟨⟨k+1,by omega,by go_num,by rw [HL.out],rA HB.out (bA _ _)⟩,by simp [intOf];omega⟩
  ·have ek:t.mets.take k=t.mets:=List.take_of_length_le (by omega);rw [ek];clear ek;generalize iE t.mets m c.ml=ML at *;have T2:Hid (lA wr (w.heap.size+1) #[.string t.name,.int .i64 t.limit,.slice a1 t.mets.length c1,.slice a2 t.sers.length c2] 95):=T1.out.later HB.out;have B2:Hid _:=rA B1.out HB.out;have y3:wr.cell? ⟨w.heap.size+1,3,none⟩=some (.slice a2 t.sers.length c2):=T2.out.cell 3;clear T1 B1 HB;generalize hwo:wr=wo at *;clear hwo;go_wp2;clear y3 T2;go_loopw [12,14,46] (fun n _ i wr=>∃k:Nat,k≤t.sers.length∧i=.int .i64 k∧n=.int .i64 (mF bC (t.sers.take k) m:Nat)∧Below wo.heap.size wo wr) (fun _ _ i _=>t.sers.length - (intOf i).toNat)
   case atStart=>exact ⟨0,Nat.zero_le _,rfl,rfl,Below.refl _ _⟩
   case round=>
    obtain ⟨j,hj,rfl,rfl,hbel⟩:=hrel;have HB:Hid _:=hbel;clear hbel;by_cases hlt2:j<t.sers.length
    ·obtain ⟨pb,po,rfl,hpl,z0,z1⟩:=(P2.out.later (rA B2.out HB.out)).at hlt2;have HT:Hid (mF bC (t.sers.take (j+1)) m=mF bC (t.sers.take j) m+if (bC t.sers[j].s).toList==m.toList then 1 else 0):=aDw _ _ _ hlt2;have HM:Hid (∀W,Calls Tryz.prog 101 #[.string t.sers[j].s] W fun e w'=>e=.returned (.string (bC t.sers[j].s))∧Below W.heap.size W w'):=fun W=>xS t.sers[j].s W (HBP.out j hlt2);have hcl:mF bC (t.sers.take j) m≤1000000000:=by have:=NT bC (t.sers.take j) m;rw [List.length_take] at this;omega
     generalize t.sers[j]=P at *;generalize bC P.s=mk at *;generalize mF bC (t.sers.take j) m=N0 at *;go_wp2_with fail;refine (HM.out _).mono ?_;rintro e w5 ⟨rfl,hb5⟩;have HB5:Hid _:=rA HB.out (rA (bA _ _) hb5);clear hb5 HM;by_cases he:(mk.toList==m.toList)=true
     ·have HL:Hid (mF bC (t.sers.take (j+1)) m=N0+1):=by show _=_;rw [HT.out,if_pos he]
      clear HT;go_wp2;exact ⟨⟨j+1,by omega,by go_num,by rw [HL.out];go_num,HB5.out⟩,by simp [intOf];omega⟩
     ·have he':(mk.toList==m.toList)=false:=by simpa using he
      have HL:Hid (mF bC (t.sers.take (j+1)) m=N0):=by show _=_;rw [HT.out,if_neg he];rfl
      clear HT he;go_wp2;exact ⟨⟨j+1,by omega,by go_num,by rw [HL.out],HB5.out⟩,by simp [intOf];omega⟩
    ·have ej:t.sers.take j=t.sers:=List.take_of_length_le (by omega);rw [ej];clear ej;go_wp2;go_ret2;exact ⟨gR (by rw [HV.out]) (by rw [HV.out]),rA B2.out HB.out⟩
def pN (w:World) (B:Nat) (v:Value) (s:ByteArray):Prop:=
 ∃g cap cur fz,v=.slice (some ⟨g,0,none⟩) s.size cap∧B≤g∧w.heap[g]?=some (.cells cur 5 fz)∧(fz.2=0∨cap≤fz.1)∧s.size≤cap∧cap≤maxLen∧cur.size=cap∧cur.toList.take s.size=Lib.strCells s
theorem pN.later {w w':World}{B:Nat}{v:Value}{s:ByteArray} (h:pN w B v s) (hb:Below w.heap.size w w'):pN w' B v s:=by
 obtain ⟨g,cap,cur,fz,h1,h2,h3,h4⟩:=h;exact ⟨g,cap,cur,fz,h1,h2,(hb.block g (aA h3)).trans h3,h4⟩
theorem pN.mono {w:World}{B B':Nat}{v:Value}{s:ByteArray} (h:pN w B v s) (hB:B'≤B):pN w B' v s:=by
 obtain ⟨g,cap,cur,fz,h1,h2,h3⟩:=h;exact ⟨g,cap,cur,fz,h1,Nat.le_trans hB h2,h3⟩
theorem pN.lt {w:World}{B:Nat}{v:Value}{s:ByteArray} (h:pN w B v s):∃g,v.ownBlock=some g∧B≤g∧g<w.heap.size:=by
 obtain ⟨g,cap,cur,fz,rfl,h2,h3,h4⟩:=h;exact ⟨g,rfl,h2,aA h3⟩
theorem wR (a b:ByteArray):Lib.strCells (a++b)=Lib.strCells a++Lib.strCells b:=by simp [Lib.strCells]
theorem aBb (P:Program) (g o:Nat) (t:TypeId) (fz:Nat×Nat) (vs:List Value):∀(i:Nat) (cur:Array Value) (w:World),w.heap[g]?=some (.cells cur t fz)→(fz.2=0∨cur.size≤fz.1)→o+i+vs.length≤cur.size→(∀v∈vs,v.oneCell'=true)→
 (storeCells ⟨g,o,none⟩ vs i).run P w=.ok () (w.setRow g (cur.toList.take (o+i)++vs++cur.toList.drop (o+i+vs.length)).toArray):=by
 induction vs with
 | nil=>
   intro i cur w hg _ _ _;rw [storeCells,List.append_nil,List.length_nil,Nat.add_zero,List.take_append_drop,Array.toArray_toList,setRow_self w g cur t fz hg];rfl
 | cons v q ih=>
   intro i cur w hg hz hl h1;rw [List.length_cons] at hl;have ha:(⟨g,o,none⟩:Addr).add i=⟨g,o+i,none⟩:=by unfold Addr.add;split<;>simp_all
   have hc:w.cell? ⟨g,o+i,none⟩=some (cur[o+i]'(by omega)):=by rw [cell_of_row w g _ cur t fz hg];exact Array.getElem?_eq_getElem (by omega)
   have hnf:w.frozen? ⟨g,o+i,none⟩=false:=by
    unfold World.frozen?;rw [hg];rcases hz with hz | hz
    ·rw [Bool.and_eq_false_iff];exact Or.inr (decide_eq_false (by show ¬o+i<fz.2;omega))
    ·rw [Bool.and_eq_false_iff];exact Or.inl (decide_eq_false (by show ¬fz.1≤o+i;omega))
   have hs:(store ((⟨g,o,none⟩:Addr).add i) v).run P w=.ok () (w.setRow g (cur.setIfInBounds (o+i) v)):=by
    rw [ha,run_store P w _ v _ (h1 v (List.mem_cons_self ..)),hc];simp [hnf,setCell_eq_setRow w g (o+i) cur t fz v hg]
   have h:=ih (i+1) (cur.setIfInBounds (o+i) v) (w.setRow g (cur.setIfInBounds (o+i) v)) (setRow_heap w g cur _ t _ hg) (by simpa using hz) (by simp;omega) (fun x hx=>h1 x (List.mem_cons_of_mem _ hx));rw [storeCells,Sem.run_bind,hs,Result.andThen_ok,h,setRow_setRow];congr 3;have e:=list_seg_step cur.toList (o+i) v q (by simp;omega);simpa [Array.toList_setIfInBounds,Nat.add_assoc] using e
theorem JD (w:World) (B:Nat) (v:Value) (s x:ByteArray) (ty:TypeId) (hown:pN w B v s) (hB:B≤w.heap.size) (hz:s.size+x.size≤140737488355328):
 ∃v' w',(Builtin.append_ #[102,9] ty #[v,.string x]).run Tryz.prog w=.ok v' w'∧pN w' B v' (s++x)∧w.grownBy w' v.ownBlock∧(v'.ownBlock=v.ownBlock∨v'.ownBlock=some w.heap.size):=by
 obtain ⟨ti,hti,hz0,hz1,hz2⟩:=OP;obtain ⟨g,cap,cur,fz,rfl,hg1,hg2,hg3,hg4,hg5,hg6,hg7⟩:=hown;have hsz:(s++x).size=s.size+x.size:=ByteArray.size_append;by_cases hroom:s.size+x.size≤cap
 ·have hf:=Lib.run_firstCells_string (P:=Tryz.prog) w 1 x;have hst:=aBb Tryz.prog g s.size 5 fz (Lib.strCells x) 0 cur w hg2 (by rw [hg6];exact hg3) (by rw [Lib.strCells_length];omega) (Lib.strCells_oneCell x);simp only [Nat.add_zero,Lib.strCells_length] at hst;refine ⟨.slice (some ⟨g,0,none⟩) (s.size+x.size) cap,w.setRow g (cur.toList.take s.size++Lib.strCells x++cur.toList.drop (s.size+x.size)).toArray,?_,?_,⟨rfl,rfl,rfl,by simp,fun k _ hk=>setRow_other w g k _ (fun e=>hk (by simp [Value.ownBlock,e]))⟩,Or.inl rfl⟩
  ·simp [Builtin.append_,run_underlying Tryz.underlying102,run_underlying Tryz.underlying9,sizeOf,typeInfo,hti,hz1,Builtin.lenOf,hroom,hf,Addr.add_lit,hst]
  ·refine ⟨g,cap,_,fz,by rw [hsz],hg1,setRow_heap w g cur _ _ _ hg2,hg3,by omega,hg5,?_,?_⟩
   ·simp only [List.size_toArray,List.length_append,List.length_take,List.length_drop,Array.length_toList,Lib.strCells_length];omega
   ·rw [hg7,hsz,wR];have hl:(Lib.strCells s++Lib.strCells x).length=s.size+x.size:=by rw [List.length_append,Lib.strCells_length,Lib.strCells_length]
    rw [←hl];exact List.take_left
 ·have holds:∀j u,(Lib.strCells s)[j]?=some u→w.cell? ((⟨g,0,none⟩:Addr).add j)=some u:=fun j u hu=>by
   have ha:(⟨g,0,none⟩:Addr).add j=⟨g,j,none⟩:=by unfold Addr.add;split<;>simp_all
   rw [ha,cell_of_row w g j cur _ _ hg2];rw [←hg7,List.getElem?_take] at hu;split at hu
   ·simpa using hu
   ·cases hu
  have hr:=Lib.run_append_grow_string (P:=Tryz.prog) w 102 9 ty 5 ti (.int .u8 0) Tryz.underlying102 Tryz.underlying9 hti hz0 ⟨g,0,none⟩ s.size cap (Lib.strCells s) (by rw [hz1,Lib.strCells_length,Nat.mul_one]) holds x (by omega) (by omega) (by rw [hz2];exact growslice_fits (by omega) (by omega));have hge:=grownCap_ge w (s.size+x.size) cap 5;have hcm:=grownCap_le_maxLen w (s.size+x.size) cap 5 (by unfold maxLen;omega);refine ⟨_,_,hr,⟨w.heap.size,_,_,(0,0),by rw [hsz],hB,heap_alloc_new w.drew _,Or.inl rfl,by omega,hcm,?_,?_⟩,⟨rfl,rfl,rfl,by simp,fun k hk _=>heap_alloc_old w.drew _ hk⟩,Or.inr rfl⟩
  ·have hq:(Value.int IntKind.u8 0).cells.size=1:=rfl;simp only [Array.size_append,List.size_toArray,size_zeroCells,hq,Lib.strCells_length];omega
  ·rw [hsz,wR];have hl:(Lib.strCells s++Lib.strCells x).length=s.size+x.size:=by rw [List.length_append,Lib.strCells_length,Lib.strCells_length]
   simp only [Array.toList_append,List.append_assoc];rw [←List.append_assoc,←hl];exact List.take_left
theorem PY (w:World) (B:Nat) (v:Value) (s x:ByteArray) (ty:TypeId) (hown:pN w B v s) (hB:B≤w.heap.size) (hz:s.size+x.size≤140737488355328):
 ∃v' w',(Builtin.append_ #[102,9] ty #[v,.string x]).run Tryz.prog w=.ok v' w'∧pN w' B v' (s++x)∧w.grownBy w' v.ownBlock:=by
 obtain ⟨v',w',h1,h2,h3,_⟩:=JD w B v s x ty hown hB hz;exact ⟨v',w',h1,h2,h3⟩
theorem JO (w:World){ops:Array Oper}{o:Oper}{a:Act}{K:Act→World→Prop}{Q:Exit→Act→World→Prop}{E:Prop} (hgd:o.guard=none) (sl x:Operand)
 (ho:o.op=.call { callee:=.builtin .append,args:=#[sl,x],argTypes:=#[102,9] })
 (B:Nat) (v:Value) (s t:ByteArray) (hs:a.eval sl=v) (hown:pN w B v s) (hx:a.eval x=.string t) (hB:B≤w.heap.size) (hz:s.size+t.size≤140737488355328)
 (h:∀v' w',pN w' B v' (s++t)→Below B w w'→(∀k,k<w.heap.size→v.ownBlock≠some k→w'.heap[k]?=w.heap[k]?)→K (a.put o.dst v') w'):
 if Region.wanted o (yielded ops a.tmps)=true then Oper.wp Tryz.prog o a w K Q else E:=by
 have hw:Region.wanted o (yielded ops a.tmps)=true:=by simp [Region.wanted,hgd]
 rw [if_pos hw];obtain ⟨v',w',hr,h2,h3⟩:=PY w B v s t o.type hown hB hz;have hlt:=hown.lt;have hK:=h v' w' h2 ((Below.refl B w).grown h3 hB (fun q hq=>by obtain ⟨g,e,hg,_⟩:=hlt;rw [e] at hq;cases hq;exact hg)) (fun k hk hne=>h3.block k hk (fun e=>hne e.symm));unfold Oper.wp execOp;simp only [ho,resolve,invoke,builtin,Sem.run_bind,Sem.run_pure,Result.andThen_ok,List.map_toArray,List.map_cons,List.map_nil,hs,hx,hr];exact hK
theorem NW (w:World) (s:ByteArray) (hs:s.size≤140737488355328):∃v w',(convert 9 102 (.string s)).run Tryz.prog w=.ok v w'∧pN w' w.heap.size v s∧Below w.heap.size w w':=by
 refine ⟨_,_,run_bytes_of_string w _ _ 5 s Tryz.underlying9 Tryz.underlying102 Tryz.underlying5,?_,(Below.refl _ w).drew.alloc (by simp) _⟩;have hge:=grownCap_ge w s.size 0 5;have hcm:=grownCap_le_maxLen w s.size 0 5 (by unfold maxLen;omega);have hsz:(bytesRow s (grownCap w s.size 0 5)).size=grownCap w s.size 0 5:=by
  unfold bytesRow;rw [Array.size_append,Array.size_map,Array.size_replicate];show s.size+_=_;omega
 refine ⟨w.heap.size,_,_,_,rfl,Nat.le_refl _,heap_alloc_new w.drew _,Or.inr (by rw [hsz];exact Nat.le_refl _),hge,hcm,hsz,?_⟩;have hl:(Lib.strCells s).length=s.size:=Lib.strCells_length s;unfold bytesRow;rw [Array.toList_append,Array.toList_map];conv=>lhs;arg 1;rw [←hl]
 exact List.take_left
theorem aIj (s:ByteArray) (hs:s.size≤140737488355328):∃(V:World→Value) (N:World→World),(∀w,(convert 9 102 (.string s)).run Tryz.prog w=.ok (V w) (N w))∧∀w,pN (N w) w.heap.size (V w) s∧Below w.heap.size w (N w):=
 ⟨fun w=>Classical.choose (NW w s hs),fun w=>Classical.choose (Classical.choose_spec (NW w s hs)),fun w=>(Classical.choose_spec (Classical.choose_spec (NW w s hs))).1,fun w=>(Classical.choose_spec (Classical.choose_spec (NW w s hs))).2⟩
theorem aOe {w:World}{B:Nat}{v:Value}{s:ByteArray} (h:pN w B v s):(convert 102 9 v).run Tryz.prog w=.ok (.string s) w:=by
 obtain ⟨g,cap,cur,fz,rfl,h1,h2,h3,h4,h5,h6,h7⟩:=h;have:=run_convert_bytes_back w 102 9 5 ⟨g,0,none⟩ cap s.data.toList Tryz.underlying102 Tryz.underlying5 Tryz.underlying9 (fun j hj=>by
  have ha:(⟨g,0,none⟩:Addr).add j=⟨g,j,none⟩:=by unfold Addr.add;split<;>simp_all
  rw [ha,cell_of_row w g j cur _ _ h2,←Array.getElem?_toList];have hj':j<s.size:=by simpa using hj
  have:(cur.toList.take s.size)[j]?=(Lib.strCells s)[j]?:=by rw [h7]
  rw [List.getElem?_take_of_lt hj'] at this;rw [this,Lib.strCells,List.getElem?_map,List.getElem?_eq_getElem hj];rfl)
 simpa using this
end Go.Proofs.YtcneojllbkacoaaGreatDoor
