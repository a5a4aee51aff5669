import Derived.Test.YtcneojllbkacoaaGreatDoorJ32RecE
set_option maxRecDepth 100000
set_option maxHeartbeats 16000000
namespace Go.Proofs.YtcneojllbkacoaaGreatDoor
open Go.RowKit Go.Maps
theorem wM.seen {w w':World}{S:Nat→Prop}{x:Nat}{t:cA}{M lm sm cm:Nat}{iv:Value}{Q:List (gA×Nat)}{hs:List rF}{D:DataW Unit}{q:gA×Nat}{now:Int} (h:wM w S x t M lm sm cm iv Q hs D) (hq:q∈Q) (hn:q.1.n≤now) (ht:dA (·=q.2) w w')
 (hb:lA w' q.2 #[.string q.1.s,.int .i64 now] 151):zB w' S x (pE t q.1.s now) M:=by
 have hrq:oB (fun q:gA×Nat=>q.1.s) Q:=by
  rw [←fO (key':=fun p:gA=>p.s) (fun q:gA×Nat=>q.1) (fun _=>rfl),h.q1];exact h.rs
 have hmap:∀{β:Type} (f:gA×Nat→β),f q=f ((⟨q.1.s,now⟩:gA),q.2)→(tA (fun q:gA×Nat=>q.1.s) ((⟨q.1.s,now⟩:gA),q.2) Q).map f=Q.map f:=fun f hf=>
  eX (key:=fun q:gA×Nat=>q.1.s) (a:=((⟨q.1.s,now⟩:gA),q.2)) f hrq hq rfl hf
 have hlen:(tA (fun q:gA×Nat=>q.1.s) ((⟨q.1.s,now⟩:gA),q.2) Q).length=Q.length:=by
  have:=congrArg List.length (hmap (fun q=>q.2) rfl);simpa using this
 have hmem:∀p,p∈tA (fun q:gA×Nat=>q.1.s) ((⟨q.1.s,now⟩:gA),q.2) Q→p=((⟨q.1.s,now⟩:gA),q.2)∨(p∈Q∧p.2≠q.2):=fun p hp=>by
  rcases PG hrq hp with e | ⟨hp,hne⟩
  ·exact Or.inl e
  ·refine Or.inr ⟨hp,fun e=>?_⟩;have:=lN h.nd hp hq e;rw [this] at hne;exact hne rfl
 have hq1:(tA (fun q:gA×Nat=>q.1.s) ((⟨q.1.s,now⟩:gA),q.2) Q).map (·.1)=(pE t q.1.s now).sers:=by
  rw [oH (key':=fun p:gA=>p.s) (fun q:gA×Nat=>q.1) (fun _=>rfl),h.q1];rfl
 refine ⟨lm,sm,cm,iv,tA (fun q:gA×Nat=>q.1.s) ((⟨q.1.s,now⟩:gA),q.2) Q,hs,D,?_⟩;exact { h with
  blk:=ht.blk h.blk (h.dx q hq).symm
  lims:=ht.map h.lims (nB h.lims (h.cells q hq))
  sers:=by
   rw [hlen,hmap (fun q=>(q.1.s,kD q.2)) rfl];exact ht.map h.sers (nB h.sers (h.cells q hq))
  cnts:=ht.map h.cnts (nB h.cnts (h.cells q hq))
  cnt:=fun m=>by
   rw [h.cnt m];have:t.sers.map (·.s)=(pE t q.1.s now).sers.map (·.s):=by
    rw [←hq1,←h.q1,List.map_map,List.map_map];exact (hmap ((fun p:gA=>p.s) ∘ fun q:gA×Nat=>q.1) rfl).symm
   rw [YL this m]
  q1:=hq1
  cells:=fun p hp=>by
   rcases hmem p hp with rfl | ⟨hp,hne⟩
   ·exact hb
   ·exact ht.blk (h.cells p hp) hne
  row:=ht.row h.row (fun g hg e=>(h.di g hg).2 q hq e.symm)
  perm:=by rw [hmap (fun q=>q.2) rfl];exact h.perm
  early:=fun s hs' p hp e=>by
   rcases hmem p hp with rfl | ⟨hp,_⟩
   ·exact Int.le_trans (h.early s hs' q hq e) hn
   ·exact h.early s hs' p hp e
  rs:=dH h.rs
  sq:=fun p hp=>by
   rcases hmem p hp with rfl | ⟨hp,_⟩
   ·exact h.sq q hq
   ·exact h.sq p hp
  nd:=by rw [hmap (fun q=>q.2) rfl];exact h.nd
  dx:=fun p hp=>by
   rcases hmem p hp with rfl | ⟨hp,_⟩
   ·exact h.dx q hq
   ·exact h.dx p hp
  di:=fun g hg=>⟨(h.di g hg).1,fun p hp=>by
   rcases hmem p hp with rfl | ⟨hp,_⟩
   ·exact (h.di g hg).2 q hq
   ·exact (h.di g hg).2 p hp⟩ }
theorem aJl {w w1:World}{B:Nat}{T:Nat→Option Nat}{l m:Nat}{c:eC}{now:Int}{L:List (cA×Nat)}{M M':Nat}{p:cA×Nat}{t':cA} (h:vI w B T l m c now L M) (hB:B≤w.heap.size) (hp:p∈L) (hn:t'.name=p.1.name)
 (t1:dA (fun g=>B≤g∧T g=some p.2) w w1) (hi:zB w1 (fun g=>(B≤g∧T g=some p.2)∨w.heap.size≤g) p.2 t' M') (hM:M≤M'):
 tC w1 B l m c now ((tA (fun p:cA×Nat=>p.1.name) (t',p.2) L).map (·.1)) M':=by
 refine PA (n:=L.length) h hB hp hn t1 hi hM (dA.refl _ w1) ?_;have hput:DataW.put (kC (L.map fun p=>(p.1.name,kD p.2))) (kL t'.name) (kD p.2)=kC ((tA (fun p:cA×Nat=>p.1.name) (t',p.2) L).map fun p=>(p.1.name,kD p.2)):=
  fZ (key:=fun p:cA×Nat=>p.1.name) (fun p=>kD p.2) (t',p.2) h.rise
 have hmap:(tA (fun p:cA×Nat=>p.1.name) (t',p.2) L).map (fun p=>(p.1.name,kD p.2))=L.map fun p=>(p.1.name,kD p.2):=
  eX (key:=fun p:cA×Nat=>p.1.name) (a:=(t',p.2)) (fun p:cA×Nat=>(p.1.name,kD p.2)) h.rise hp hn.symm (by simp [hn])
 rw [hput,hmap];exact t1.map h.ten (fun e=>by rw [h.tm] at e;cases e.2)
theorem tC.mono {w:World}{B l m:Nat}{c:eC}{now:Int}{ts:List cA}{M M':Nat} (h:tC w B l m c now ts M) (hM:M≤M'):tC w B l m c now ts M':=by
 obtain ⟨T,L,h,e⟩:=h;exact ⟨T,L,{ h with idx:=fun p hp=>(h.idx p hp).mono hM},e⟩
theorem aLj (w:World):(zeroValue 232).run Tryz.prog w=.ok (.pointer none) w:=by kernel_rfl
theorem LN {w:World}{sm:Nat}{Q:List (gA×Nat)} (h:w.ownsMap Tryz.prog 9 wC sm Q.length (kC (Q.map fun q=>(q.1.s,kD q.2)))){key:ByteArray} (hk:key.size≤maxLen):
 (∃q,cB (fun q:gA×Nat=>q.1.s) key Q=some q∧(Instr.lookup 224 (.map (some sm)) (.string key) true).run Tryz.prog w=.ok (.tuple #[.pointer (some ⟨q.2,0,none⟩),.bool true]) w)∨
 (cB (fun q:gA×Nat=>q.1.s) key Q=none∧(Instr.lookup 224 (.map (some sm)) (.string key) true).run Tryz.prog w=.ok (.tuple #[.pointer none,.bool false]) w):=by
 obtain ⟨v,ps,hrun,hv⟩:=h.look_ok zG Tryz.underlying224 (aLj w) (zd:=.nil) (zp:=[]) rfl (uI hk);rw [OL (key:=fun q:gA×Nat=>q.1.s) (val:=fun q=>kD q.2)] at hrun;rw [sN (key:=fun q:gA×Nat=>q.1.s) (fun q=>kD q.2)] at hv;cases hg:cB (fun q:gA×Nat=>q.1.s) key Q with
 | some q=>
   rw [hg] at hrun hv;have hve:=aM hv;subst hve;exact Or.inl ⟨q,rfl,hrun⟩
 | none=>
   rw [hg] at hrun hv;have hve:=BF hv;subst hve;exact Or.inr ⟨rfl,hrun⟩
theorem ZV (l m:Nat) (tenant key:ByteArray) (c:eC) (now:Int) (B:Nat) (ts:List cA) (M:Nat) (w:World) (h:tC w B l m c now ts M) (hB:B≤w.heap.size) (hU:wF w) (hn:tenant.size≤1048576) (hk:key.size≤1048576) (hM:1≤M) (hM2:M≤1000000000) (hsl:∀t∈ts,t.sers.length≤1000000000) (hlv:∀t∈ts,∀y∈t.sers,y.n≤now) (hlen:ts.length≤1000000000):
 Calls Tryz.prog 152 #[.pointer (some ⟨l,0,none⟩),.string tenant,.string key] w fun e w'=>e=.returned (.int .i64 ((tJ c now ts tenant key).2:Nat))∧tC w' B l m c now (tJ c now ts tenant key).1 (M+1)∧dA (fun g=>B≤g) w w':=by
 have HLA:=iA h;obtain ⟨T,L,h,hL⟩:=h;have HMT:Hid (Calls Tryz.prog 188 #[.string key] w fun e w'=>e=.returned (.string (bC key))∧Below w.heap.size w w'):=mS key w (by omega) hU;have HT:Hid _:=fun W=>xK tenant W (by unfold maxLen;omega);have HS:Hid (tJ c now ts tenant key=if (dC tenant&&yF key)=false then (ts,5) else if (cB (·.s) key (xA ts tenant).sers).isSome=true then (tA (·.name) (pE (xA ts tenant) key now) ts,1) else if (if (xA ts tenant).limit = -1 then c.tl else (xA ts tenant).limit)≤((xA ts tenant).sers.length:Nat)∨((cB (·.name) tenant ts).isNone&&decide (10000≤ts.length))=true then (ts,3) else if iE (xA ts tenant).mets (bC key) c.ml≤(mF bC (xA ts tenant).sers (bC key):Nat) then (ts,4) else (tA (·.name) (pE (xA ts tenant) key now) ts,2)):=rfl;have HKO:Hid (yF key=!(bC key).toList.isEmpty):=rfl;have HADD:Hid (∀(S:Nat→Prop) (x:Nat) (t:cA) (M0:Nat) (W:World),zB W S x t M0→cB (·.s) key t.sers=none→M0≤1000000000→t.sers.length≤1000000000→Calls Tryz.prog 190 #[.pointer (some ⟨x,0,none⟩),.string key,.string (bC key),.int .i64 now] W fun e w'=>e=.returned (.tuple #[])∧zB w' (fun g=>S g∨W.heap.size≤g) x (pE t key now) (M0+1)∧dA S W w'):=fun S x t M0 W hi hnew hM0 hl=>aBr x t key now S M0 W hi hnew (by unfold maxLen;omega) (kN key) hM0 hl;have HML:Hid _:=fun S x t M0 W hl hi=>lX l m x c now t S M0 (bC key) W hl hi (kN key);have HLK:Hid _:=fun (W:World) (cm:Nat) (M0:Nat) (D:DataW Unit) (n:Nat) (hm:W.ownsMap Tryz.prog 9 (plainElem Tryz.prog 3) cm M0 D) (hc:D.atKey (kL (bC key)) (uF 0)=uF n)=>VE hm hc (kN key);clear hU;rw [HKO.out] at HS;clear HKO;generalize bC key=mk at *;generalize hb1:dC tenant=b1 at *;clear hb1;generalize hR:tJ c now ts tenant key=R at *;clear hR;by_cases h1:b1=false
 ·have HV:Hid (R=(ts,5)):=by show _=_;rw [HS.out,if_pos (by rw [h1];rfl)]
  clear HS h HADD HML HLK;subst h1;go_enter Tryz.func152,Tryz.ntmps152;go_wp2_with fail;refine HMT.out.mono ?_;rintro e w1 ⟨rfl,hb1⟩;have HB1:=iA hb1;clear hb1;go_wp2_with fail;refine (HT.out _).mono ?_;rintro e wz ⟨rfl,hw⟩;replace hw:=hw.symm;subst hw;go_wp2;go_ret;exact ⟨jB (by rw [HV.out];rfl),by rw [HV.out];exact (HLA.out.later HB1.out).mono (by omega),dA.of HB1.out⟩
 have h1':b1=true:=by simpa using h1
 subst h1';clear h1;by_cases h2:mk.toList.isEmpty=true
 ·have HV:Hid (R=(ts,5)):=by show _=_;rw [HS.out,if_pos (by rw [h2];rfl)]
  clear HS h HADD HML HLK;go_enter Tryz.func152,Tryz.ntmps152;go_wp2_with fail;refine HMT.out.mono ?_;rintro e w1 ⟨rfl,hb1⟩;have HB1:=iA hb1;clear hb1;go_wp2_with fail;refine (HT.out _).mono ?_;rintro e wz ⟨rfl,hw⟩;replace hw:=hw.symm;subst hw;go_wp2;go_ret;exact ⟨jB (by rw [HV.out];rfl),by rw [HV.out];exact (HLA.out.later HB1.out).mono (by omega),dA.of HB1.out⟩
 have h2':mk.toList.isEmpty=false:=by simpa using h2
 have HS2:Hid (R=if (cB (·.s) key (xA ts tenant).sers).isSome=true then (tA (·.name) (pE (xA ts tenant) key now) ts,1) else if (if (xA ts tenant).limit = -1 then c.tl else (xA ts tenant).limit)≤((xA ts tenant).sers.length:Nat)∨((cB (·.name) tenant ts).isNone&&decide (10000≤ts.length))=true then (ts,3) else if iE (xA ts tenant).mets mk c.ml≤(mF bC (xA ts tenant).sers mk:Nat) then (ts,4) else (tA (·.name) (pE (xA ts tenant) key now) ts,2)):=by show _=_;rw [HS.out,if_neg (by rw [h2'];simp)]
 have HK:Hid (keyOf Tryz.prog 9 (.string tenant)=some (kL tenant)):=uI (by unfold maxLen;omega);have hsub:=hL;subst hsub;have hln:(L.map (·.1)).length=L.length:=List.length_map _;have hlL:L.length≤1000000000:=by omega
 have HGB:Hid (cB (·.name) tenant (L.map (·.1))=(cB (fun p:cA×Nat=>p.1.name) tenant L).map (·.1)):=FJ;have HTO:Hid (xA (L.map (·.1)) tenant=(((cB (fun p:cA×Nat=>p.1.name) tenant L).map (·.1)).getD ⟨tenant,-1,[],[]⟩)):=by
  show _=_;unfold xA;rw [HGB.out]
 have HF:Hid _:=fun W hW=>TH l m tenant c now B T L M W hW (by unfold maxLen;omega);unfold MW at HF;have HH:=iA h;have HMB:Hid (B≤m∧B≤l):=⟨h.mB,h.lB⟩
 clear h HS hL h2;go_enter Tryz.func152,Tryz.ntmps152;go_wp2_with fail;refine HMT.out.mono ?_;rintro e w1 ⟨rfl,hb1⟩;have HB1:=iA hb1;have H1:Hid _:=HH.out.keep fun g hg _=>hb1.block g hg;have hs1:=hb1.size;clear hb1 HMT;go_wp2_with fail;refine (HT.out _).mono ?_;rintro e wz ⟨rfl,hw⟩;replace hw:=hw.symm;subst hw;clear HT;go_wp2_with fail;refine (HF.out _ H1.out).mono ?_;intro e w3 hfo;have HFO:=iA hfo;clear hfo;rcases HFO.out with ⟨p,hg,rfl,hw⟩ | ⟨hg,x,rfl,hx,hi,hb3⟩
 ·replace hw:=hw.symm;subst hw;obtain ⟨hp,hpn⟩:=gN hg;have HTE:Hid (xA (L.map (·.1)) tenant=p.1):=by show _=_;rw [HTO.out,hg];rfl
  have HGS:Hid (cB (·.name) tenant (L.map (·.1))=some p.1):=by show _=_;rw [HGB.out,hg];rfl
  rw [HTE.out,HGS.out] at HS2;have hpl:=hsl p.1 (List.mem_map_of_mem hp);have HNW:Hid _:=hlv p.1 (List.mem_map_of_mem hp);have HP:Hid (p∈L∧p.1.name=tenant):=⟨hp,hpn⟩
  have HIX:Hid (zB w1 (fun g=>B≤g∧T g=some p.2) p.2 p.1 M):=H1.out.idx p hp;have HLB:Hid (lA w1 l (yP c now m) 168):=H1.out.blk;have HBW:Hid _:=HB1.out;have HL1:=H1;clear HFO hg hp hpn HTO HGB HTE HGS HF;generalize ht:p.1=t at *;obtain ⟨lm,sm,cm,iv,Q,hs,D,hi⟩:=HIX.out;have HI:=iA hi;have HQ1:Hid _:=hi.q1;have x2:w1.cell? ⟨p.2,2,none⟩=some (.map (some sm)):=hi.blk.cell 2;have x6:w1.cell? ⟨l,6,none⟩=some (.int .i64 now):=HLB.out.cell 6;have HLO:Hid (Calls Tryz.prog 192 #[.pointer (some ⟨l,0,none⟩),.pointer (some ⟨p.2,0,none⟩)] w1 fun e w'=>e=.returned (.int .i64 (if t.limit = -1 then c.tl else t.limit))∧w'=w1):=BA l m p.2 c now t (fun g=>B≤g∧T g=some p.2) M w1 HLB.out HIX.out;have l2:=hi.sers.len Tryz.underlying224 3;rw [oI] at l2;have hqn:Q.length=t.sers.length:=by rw [←hi.q1,List.length_map]
  rw [hqn] at l2;have HGQ:Hid (cB (·.s) key t.sers=(cB (fun q:gA×Nat=>q.1.s) key Q).map (·.1)):=by
   show _=_;rw [←hi.q1];exact wK (key:=fun q:gA×Nat=>q.1.s) (key':=fun p:gA=>p.s) (fun q=>q.1) (fun _=>rfl) key Q
  have HLS:=iA (LN hi.sers (key:=key) (by unfold maxLen;omega));have HMLY:Hid _:=fun (y:pA w1)=>HML.out _ p.2 t M y.w' (HLB.out.later y.h) (HIX.out.later y.h);have c3:w1.cell? ⟨p.2,3,none⟩=some (.map (some cm)):=hi.blk.cell 3;have d3:=pA.cells c3;have HC:Hid (∀y:pA w1,∃cm,y.w'.cell? ⟨p.2,3,none⟩=some (.map (some cm))∧(Instr.lookup 223 (.map (some cm)) (.string mk) false).run Tryz.prog y.w'=.ok (.int .i64 (mF bC t.sers mk)) y.w'):=fun y=>by
   obtain ⟨lm,sm,cm,iv,Q,hs,D,hi⟩:=HIX.out.later y.h;exact ⟨cm,hi.blk.cell 3,HLK.out _ cm M D _ hi.cnts (hi.cnt mk)⟩
  have HCR:Hid (∀y:pA w1,(Instr.lookup 223 (.map (some cm)) (.string mk) false).run Tryz.prog y.w'=.ok (.int .i64 (mF bC t.sers mk)) y.w'):=fun y=>by
   obtain ⟨cm',h1,h2⟩:=HC.out y;rw [d3 y] at h1;cases h1
   exact h2
  have HNL:Hid _:=hpl;clear HML HLK HC hi c3 hpl hqn;rcases HLS.out with ⟨q,hq,hrun⟩ | ⟨hq,hrun⟩
  ·have HGK:Hid (cB (·.s) key t.sers=some q.1):=by show _=_;rw [HGQ.out,hq];rfl
   have HV:Hid (R=(tA (·.name) (pE t key now) (L.map (·.1)),1)):=by show _=_;rw [HS2.out,if_pos (by rw [HGK.out];rfl)]
   obtain ⟨hqm,hqk⟩:=gN hq;have hqb:=HI.out.cells q hqm;have HQB:=iA hqb;have y1:w1.cell? ⟨q.2,1,none⟩=some (.int .i64 q.1.n):=hqb.cell 1;have fy1:=hqb.free 1;have ht1:dA (·=q.2) w1 (w1.setCell ⟨q.2,1,none⟩ (.int .i64 now)):=(dA.refl (·=q.2) w1).setCell (Or.inl rfl) 1 _;have hbq:lA (w1.setCell ⟨q.2,1,none⟩ (.int .i64 now)) q.2 #[.string q.1.s,.int .i64 now] 151:=by have:=hqb.set 1 (.int .i64 now);simpa using this
   have hin:zB (w1.setCell ⟨q.2,1,none⟩ (.int .i64 now)) (fun g=>B≤g∧T g=some p.2) p.2 (pE t key now) M:=by
    have:=HI.out.seen hqm (HNW.out q.1 (by rw [←HQ1.out];exact List.mem_map_of_mem hqm)) ht1 hbq;rw [hqk] at this;exact this
   have hts:dA (fun g=>B≤g∧T g=some p.2) w1 (w1.setCell ⟨q.2,1,none⟩ (.int .i64 now)):=ht1.mono fun i _ e=>by subst e;exact HI.out.sq q hqm
   have HL6:Hid (tC (w1.setCell ⟨q.2,1,none⟩ (.int .i64 now)) B l m c now (tA (·.name) (pE t key now) (L.map (·.1))) (M+1)):=by
    refine iA ?_;have:=aJl (p:=p) (t':=pE t key now) (M':=M) HL1.out (by omega) HP.out.1 (by rw [ht];rfl) hts (hin.keep fun g _ hs=>⟨rfl,Or.inl hs⟩) (Nat.le_refl _);rw [oH (key':=fun t:cA=>t.name) (fun p:cA×Nat=>p.1) (fun _=>rfl)] at this;exact this.mono (by omega)
   have HT6:Hid (dA (fun g=>B≤g) w (w1.setCell ⟨q.2,1,none⟩ (.int .i64 now))):=(dA.of HBW.out).trans' (hts.mono fun i _ e=>e.1);clear hqb ht1 hbq hin hts hqm hqk hq HI HLS HQB l2;go_wp2;go_ret;exact ⟨jB (by rw [HV.out];rfl),by rw [HV.out];exact HL6.out,HT6.out⟩
  ·have HGK:Hid (cB (·.s) key t.sers=none):=by show _=_;rw [HGQ.out,hq];rfl
   rw [HGK.out] at HS2;have HADY:Hid (∀W,Below w1.heap.size w1 W→Calls Tryz.prog 190 #[.pointer (some ⟨p.2,0,none⟩),.string key,.string mk,.int .i64 now] W fun e w'=>e=.returned (.tuple #[])∧zB w' (fun g=>(fun g=>B≤g∧T g=some p.2) g∨W.heap.size≤g) p.2 (pE t key now) (M+1)∧dA (fun g=>B≤g∧T g=some p.2) W w'):=fun W hW=>HADD.out _ p.2 t M W (HIX.out.later hW) HGK.out (by omega) HNL.out;clear HADD;have HS3:Hid (R=if (if t.limit = -1 then c.tl else t.limit)≤(t.sers.length:Nat)∨((some t).isNone&&decide (10000≤(L.map (·.1)).length))=true then (L.map (·.1),3) else if iE t.mets mk c.ml≤(mF bC t.sers mk:Nat) then (L.map (·.1),4) else (tA (·.name) (pE t key now) (L.map (·.1)),2)):=by show _=_;rw [HS2.out,if_neg (by simp)]
   clear HS2 hq HLS HGQ;generalize (if t.limit = -1 then c.tl else t.limit)=LM at *;generalize hNS:t.sers.length=NS at *;clear hNS;by_cases hge:LM≤(NS:Int)
   ·have HV:Hid (R=(L.map (·.1),3)):=by show _=_;rw [HS3.out,if_pos (Or.inl hge)]
    clear HS3;go_wp2_with fail;refine HLO.out.mono ?_;rintro e wz ⟨rfl,hw⟩;replace hw:=hw.symm;subst hw;go_wp2;go_ret;exact ⟨jB (by rw [HV.out];rfl),by rw [HV.out];exact (show tC w1 B l m c now (L.map (·.1)) (M+1) from tC.mono ⟨T,L,HL1.out,rfl⟩ (by omega)),dA.of HBW.out⟩
   have HS4:Hid (R=if iE t.mets mk c.ml≤(mF bC t.sers mk:Nat) then (L.map (·.1),4) else (tA (·.name) (pE t key now) (L.map (·.1)),2)):=by show _=_;rw [HS3.out,if_neg (by intro e;rcases e with e | e;exact hge e;simp at e)]
   clear HS3;go_wp2_with fail;refine HLO.out.mono ?_;rintro e wz ⟨rfl,hw⟩;replace hw:=hw.symm;subst hw;have hrun:=HCR.out;have hnel:=pA.there w1;clear HLO HCR l2 x2 HI;generalize hNC:mF bC t.sers mk=NC at *;generalize hNL:iE t.mets mk c.ml=NL at *;clear hNC hNL;by_cases hme2:NL≤(NC:Int)
   ·have HV:Hid (R=(L.map (·.1),4)):=by show _=_;rw [HS4.out,if_pos hme2]
    clear HS4;go_wp2_with fail;refine fA (by kernel_rfl) (by kernel_rfl) ?_;repeat (go_big_quiet_step (first | (go_at_call 194;exact uA (HMLY.out _)) | fail))
    refine wpQuiet_nil ?_;rintro _ ⟨y,rfl⟩;go_wp2;go_ret;exact ⟨jB (by rw [HV.out];rfl),by rw [HV.out];exact (show tC y.w' B l m c now (L.map (·.1)) (M+1) from tC.mono ⟨T,L,(HL1.out.keep fun g hg _=>y.h.block g hg),rfl⟩ (by omega)),dA.of (rA HBW.out y.h)⟩
   ·have HV:Hid (R=(tA (·.name) (pE t key now) (L.map (·.1)),2)):=by show _=_;rw [HS4.out,if_neg hme2]
    clear HS4;go_wp2_with fail;refine fA (by kernel_rfl) (by kernel_rfl) ?_;repeat (go_big_quiet_step (first | (go_at_call 194;exact uA (HMLY.out _)) | fail))
    refine wpQuiet_nil ?_;rintro _ ⟨y,rfl⟩;have HY:Hid _:=y.h;clear hrun d3 hnel HMLY x6;generalize y.w'=W2 at *;clear y;have x6:W2.cell? ⟨l,6,none⟩=some (.int .i64 now):=(HLB.out.later HY.out).cell 6;have H2:Hid _:=HL1.out.keep fun g hg _=>HY.out.block g hg;have hs2:=HY.out.size;go_wp2_with fail;refine (HADY.out W2 HY.out).mono ?_;rintro e w4 ⟨rfl,hi4,ht4⟩;have HI4:=iA hi4;have HT4:=iA ht4;have hs4:=ht4.size;have HTEN:Hid (w4.ownsMap Tryz.prog 9 wC m L.length (kC (L.map fun p=>(p.1.name,kD p.2)))):=ht4.map H2.out.ten (fun e=>by rw [H2.out.tm] at e;cases e.2);have x7:w4.cell? ⟨l,7,none⟩=some (.map (some m)):=(ht4.blk H2.out.blk (fun e=>by rw [H2.out.tl] at e;cases e.2)).cell 7;have HTW:Hid (dA (fun g=>B≤g) w w4):=((dA.of HBW.out).trans' (dA.of HY.out)).trans' (ht4.mono fun i _ e=>e.1);clear hi4 ht4 HADY;obtain ⟨w6,run6,own6,tn6⟩:=HTEN.out.store zG Tryz.underlying166 (by unfold maxLen;omega) HK.out (dL p.2);have ht6:=dA.mapped tn6;have HL6:Hid (tC w6 B l m c now (tA (·.name) (pE t key now) (L.map (·.1))) (M+1)):=by
     refine iA ?_;have hnm:(pE t key now).name=p.1.name:=by rw [ht];rfl
     have own7:=own6;rw [←HP.out.2] at own7;have:=PA (p:=p) (t':=pE t key now) (M':=M+1) H2.out (by omega) HP.out.1 hnm HT4.out HI4.out (by omega) ht6 own7;rw [oH (key':=fun t:cA=>t.name) (fun p:cA×Nat=>p.1) (fun _=>rfl)] at this;exact this
    have HT6:Hid _:=HTW.out.trans' (ht6.mono fun i _ e=>by have:=HMB.out;omega);clear own6 tn6 ht6;go_wp2;go_ret;exact ⟨jB (by rw [HV.out];rfl),by rw [HV.out];exact HL6.out,HT6.out⟩
 ·have HTE:Hid (xA (L.map (·.1)) tenant=⟨tenant,-1,[],[]⟩):=by show _=_;rw [HTO.out,hg];rfl
  have HGS:Hid (cB (·.name) tenant (L.map (·.1))=none):=by show _=_;rw [HGB.out,hg];rfl
  rw [HTE.out,HGS.out] at HS2;have HIX:Hid (zB w3 (fun g=>w1.heap.size≤g) x ⟨tenant,-1,[],[]⟩ 0):=hi;have HLB:Hid (lA w3 l (yP c now m) 168):=H1.out.blk.later hb3;have HBW:Hid _:=rA HB1.out hb3;have HL1:Hid _:=H1.out.keep fun g hg _=>hb3.block g hg;have HG:=iA hg;have B3:=iA hb3;have hs3:=hb3.size;have hpl:(⟨tenant,-1,[],[]⟩:cA).sers.length≤1000000000:=by simp
  have HTN:Hid ((⟨tenant,-1,[],[]⟩:cA).name=tenant):=rfl;have HTS:Hid ((⟨tenant,-1,[],[]⟩:cA).sers=[]):=rfl;clear HFO hg hi hb3 HTO HGB HTE HGS HF;generalize (⟨tenant,-1,[],[]⟩:cA)=t at *;obtain ⟨lm,sm,cm,iv,Q,hs,D,hi⟩:=HIX.out;have HI:=iA hi;have HQ1:Hid _:=hi.q1;have x2:w3.cell? ⟨x,2,none⟩=some (.map (some sm)):=hi.blk.cell 2;have x6:w3.cell? ⟨l,6,none⟩=some (.int .i64 now):=HLB.out.cell 6;have HLO:Hid (Calls Tryz.prog 192 #[.pointer (some ⟨l,0,none⟩),.pointer (some ⟨x,0,none⟩)] w3 fun e w'=>e=.returned (.int .i64 (if t.limit = -1 then c.tl else t.limit))∧w'=w3):=BA l m x c now t (fun g=>w1.heap.size≤g) 0 w3 HLB.out HIX.out;have l2:=hi.sers.len Tryz.underlying224 3;rw [oI] at l2;have hqn:Q.length=t.sers.length:=by rw [←hi.q1,List.length_map]
  rw [hqn] at l2;have HGQ:Hid (cB (·.s) key t.sers=(cB (fun q:gA×Nat=>q.1.s) key Q).map (·.1)):=by
   show _=_;rw [←hi.q1];exact wK (key:=fun q:gA×Nat=>q.1.s) (key':=fun p:gA=>p.s) (fun q=>q.1) (fun _=>rfl) key Q
  have HLS:=iA (LN hi.sers (key:=key) (by unfold maxLen;omega));have HMLY:Hid _:=fun (y:pA w3)=>HML.out _ x t 0 y.w' (HLB.out.later y.h) (HIX.out.later y.h);have c3:w3.cell? ⟨x,3,none⟩=some (.map (some cm)):=hi.blk.cell 3;have d3:=pA.cells c3;have HC:Hid (∀y:pA w3,∃cm,y.w'.cell? ⟨x,3,none⟩=some (.map (some cm))∧(Instr.lookup 223 (.map (some cm)) (.string mk) false).run Tryz.prog y.w'=.ok (.int .i64 (mF bC t.sers mk)) y.w'):=fun y=>by
   obtain ⟨lm,sm,cm,iv,Q,hs,D,hi⟩:=HIX.out.later y.h;exact ⟨cm,hi.blk.cell 3,HLK.out _ cm 0 D _ hi.cnts (hi.cnt mk)⟩
  have HCR:Hid (∀y:pA w3,(Instr.lookup 223 (.map (some cm)) (.string mk) false).run Tryz.prog y.w'=.ok (.int .i64 (mF bC t.sers mk)) y.w'):=fun y=>by
   obtain ⟨cm',h1,h2⟩:=HC.out y;rw [d3 y] at h1;cases h1
   exact h2
  have HNL:Hid _:=hpl;clear HML HLK HC hi c3 hpl hqn;have hq0:Q=[]:=by have:=HQ1.out;rw [HTS.out] at this;simpa using this
  rcases HLS.out with ⟨q,hq,hrun⟩ | ⟨hq,hrun⟩
  ·rw [hq0] at hq;cases hq
  ·clear hq0;have HGK:Hid (cB (·.s) key t.sers=none):=by show _=_;rw [HGQ.out,hq];rfl
   rw [HGK.out] at HS2;have HADY:Hid (∀W,Below w3.heap.size w3 W→Calls Tryz.prog 190 #[.pointer (some ⟨x,0,none⟩),.string key,.string mk,.int .i64 now] W fun e w'=>e=.returned (.tuple #[])∧zB w' (fun g=>(fun g=>w1.heap.size≤g) g∨W.heap.size≤g) x (pE t key now) (0+1)∧dA (fun g=>w1.heap.size≤g) W w'):=fun W hW=>HADD.out _ x t 0 W (HIX.out.later hW) HGK.out (by omega) HNL.out;clear HADD;have HS3:Hid (R=if (if t.limit = -1 then c.tl else t.limit)≤(t.sers.length:Nat)∨(((none:Option cA)).isNone&&decide (10000≤(L.map (·.1)).length))=true then (L.map (·.1),3) else if iE t.mets mk c.ml≤(mF bC t.sers mk:Nat) then (L.map (·.1),4) else (tA (·.name) (pE t key now) (L.map (·.1)),2)):=by show _=_;rw [HS2.out,if_neg (by simp)]
   clear HS2 hq HLS HGQ;generalize (if t.limit = -1 then c.tl else t.limit)=LM at *;generalize hNS:t.sers.length=NS at *;clear hNS;by_cases hge:LM≤(NS:Int)
   ·have HV:Hid (R=(L.map (·.1),3)):=by show _=_;rw [HS3.out,if_pos (Or.inl hge)]
    clear HS3;go_wp2_with fail;refine HLO.out.mono ?_;rintro e wz ⟨rfl,hw⟩;replace hw:=hw.symm;subst hw;go_wp2;go_ret;exact ⟨jB (by rw [HV.out];rfl),by rw [HV.out];exact (show tC w3 B l m c now (L.map (·.1)) (M+1) from tC.mono ⟨T,L,HL1.out,rfl⟩ (by omega)),dA.of HBW.out⟩
   have HFU:Hid (Calls Tryz.prog 193 #[.pointer (some ⟨l,0,none⟩)] w3 fun e w'=>e=.returned (.bool (decide (10000≤L.length)))∧w'=w3):=TM l m c now B T L M w3 HL1.out;by_cases hfl:10000≤L.length
   ·have HV:Hid (R=(L.map (·.1),3)):=by show _=_;rw [HS3.out,if_pos (Or.inr (by rw [hln];simpa using hfl))]
    have hfd:decide (10000≤L.length)=true:=by simpa using hfl
    rw [hfd] at HFU;clear HS3 hfd hfl;go_wp2_with fail;refine HLO.out.mono ?_;rintro e wz ⟨rfl,hw⟩;replace hw:=hw.symm;subst hw;go_wp2_with fail;refine HFU.out.mono ?_;rintro e wz ⟨rfl,hw⟩;replace hw:=hw.symm;subst hw;go_wp2;go_ret;exact ⟨jB (by rw [HV.out];rfl),by rw [HV.out];exact (show tC w3 B l m c now (L.map (·.1)) (M+1) from tC.mono ⟨T,L,HL1.out,rfl⟩ (by omega)),dA.of HBW.out⟩
   have hfd:decide (10000≤L.length)=false:=by simpa using hfl
   rw [hfd] at HFU;have HS4:Hid (R=if iE t.mets mk c.ml≤(mF bC t.sers mk:Nat) then (L.map (·.1),4) else (tA (·.name) (pE t key now) (L.map (·.1)),2)):=by show _=_;rw [HS3.out,if_neg (by intro e;rcases e with e | e;exact hge e;rw [hln,hfd] at e;simp at e)]
   clear HS3 hfd;go_wp2_with fail;refine HLO.out.mono ?_;rintro e wz ⟨rfl,hw⟩;replace hw:=hw.symm;subst hw;go_wp2_with fail;refine HFU.out.mono ?_;rintro e wz ⟨rfl,hw⟩;replace hw:=hw.symm;subst hw;have hrun:=HCR.out;have hnel:=pA.there w3;clear HLO HCR l2 x2 HI;generalize hNC:mF bC t.sers mk=NC at *;generalize hNL:iE t.mets mk c.ml=NL at *;clear hNC hNL;by_cases hme2:NL≤(NC:Int)
   ·have HV:Hid (R=(L.map (·.1),4)):=by show _=_;rw [HS4.out,if_pos hme2]
    clear HS4;go_wp2_with fail;refine fA (by kernel_rfl) (by kernel_rfl) ?_;repeat (go_big_quiet_step (first | (go_at_call 194;exact uA (HMLY.out _)) | fail))
    refine wpQuiet_nil ?_;rintro _ ⟨y,rfl⟩;go_wp2;go_ret;exact ⟨jB (by rw [HV.out];rfl),by rw [HV.out];exact (show tC y.w' B l m c now (L.map (·.1)) (M+1) from tC.mono ⟨T,L,(HL1.out.keep fun g hg _=>y.h.block g hg),rfl⟩ (by omega)),dA.of (rA HBW.out y.h)⟩
   ·have HV:Hid (R=(tA (·.name) (pE t key now) (L.map (·.1)),2)):=by show _=_;rw [HS4.out,if_neg hme2]
    clear HS4;go_wp2_with fail;refine fA (by kernel_rfl) (by kernel_rfl) ?_;repeat (go_big_quiet_step (first | (go_at_call 194;exact uA (HMLY.out _)) | fail))
    refine wpQuiet_nil ?_;rintro _ ⟨y,rfl⟩;have HY:Hid _:=y.h;clear hrun d3 hnel HMLY x6;generalize y.w'=W2 at *;clear y;have x6:W2.cell? ⟨l,6,none⟩=some (.int .i64 now):=(HLB.out.later HY.out).cell 6;have H2:Hid _:=HL1.out.keep fun g hg _=>HY.out.block g hg;have hs2:=HY.out.size;go_wp2_with fail;refine (HADY.out W2 HY.out).mono ?_;rintro e w4 ⟨rfl,hi4,ht4⟩;have HI4:=iA hi4;have HT4:=iA ht4;have hs4:=ht4.size;have BB:Hid _:=(rA B3.out HY.out).trans (ht4.below (by omega) fun i hi e=>by omega);have H4:Hid _:=H1.out.keep fun g hg _=>BB.out.block g hg;have HTEN:=iA H4.out.ten;have x7:w4.cell? ⟨l,7,none⟩=some (.map (some m)):=H4.out.blk.cell 7;have HTW:Hid (dA (fun g=>B≤g) w w4):=(dA.of HB1.out).trans' (dA.of BB.out);clear hi4 ht4 HADY;obtain ⟨w6,run6,own6,tn6⟩:=HTEN.out.store zG Tryz.underlying166 (by unfold maxLen;omega) HK.out (dL x);have ht6:=dA.mapped tn6;have HL6:Hid (tC w6 B l m c now (tA (·.name) (pE t key now) (L.map (·.1))) (M+1)):=by
     refine iA ?_;have own7:=own6;rw [←HTN.out] at own7;have:=(zq (x:=x) (t:=pE t key now) (M':=1) H1.out (by omega) (by show cB (fun p:cA×Nat=>p.1.name) t.name L=none;rw [HTN.out];exact HG.out) (Below.refl _ _) BB.out hx ht6 own7 (dA.refl _ w6) (HI4.out.keep fun g hg hs=>⟨ht6.block g hg (fun e=>by have:=H1.out.ten.lt;rcases hs with hs | hs<;>omega),by rcases hs with hs | hs<;>omega⟩) hM).mono (show M≤M+1 by omega);rw [oH (key':=fun t:cA=>t.name) (fun p:cA×Nat=>p.1) (fun _=>rfl)] at this;exact this
    have HT6:Hid _:=HTW.out.trans' (ht6.mono fun i _ e=>by have:=HMB.out;omega);clear own6 tn6 ht6;go_wp2;go_ret;exact ⟨jB (by rw [HV.out];rfl),by rw [HV.out];exact HL6.out,HT6.out⟩
end Go.Proofs.YtcneojllbkacoaaGreatDoor
namespace Go.Proofs.YtcneojllbkacoaaGreatDoor
open Go.RowKit
theorem MK (f:pC) (left:Int) (w:World) (h0:0≤left) (h1:left≤1048576) (hn:f.tenant.size≤maxLen) (hd:f.text.size≤maxLen):
 Calls Tryz.prog 18 #[.agg #[.int .i64 f.kind,.string f.tenant,.string f.text,.int .i64 f.num],.int .i64 left] w fun e w'=>e=.returned (.int .i64 (qZ left f))∧Below w.heap.size w w':=by
 unfold maxLen at hn hd;obtain ⟨ki,nm,da,nu⟩:=f;simp only at hn hd ⊢;by_cases c1:left - nm.size<0
 ·have e:qZ left ⟨ki,nm,da,nu⟩= -1:=by unfold qZ;rw [if_neg];simp only;omega
  rw [e];go_enter Tryz.func18,Tryz.ntmps18;go_wp2;go_ret;exact ⟨rfl,(Below.refl _ _).alloc (Nat.le_refl _) _⟩
 ·by_cases c2:left - nm.size - da.size<0
  ·have e:qZ left ⟨ki,nm,da,nu⟩= -1:=by unfold qZ;rw [if_neg];simp only;omega
   rw [e];go_enter Tryz.func18,Tryz.ntmps18;go_wp2;go_ret;exact ⟨rfl,(Below.refl _ _).alloc (Nat.le_refl _) _⟩
  ·have e:qZ left ⟨ki,nm,da,nu⟩=left - nm.size - da.size:=by unfold qZ;rw [if_pos];simp only;omega
   rw [e];go_enter Tryz.func18,Tryz.ntmps18;go_wp2;go_ret;exact ⟨rfl,(Below.refl _ _).alloc (Nat.le_refl _) _⟩
theorem aBg (a:Option Addr) (cap:Nat) (fs:List pC) (left:Int) (w:World) (h0:0≤left) (h1:left≤1048576) (hf:oE w a fs) (hs:DH fs) (hlen:fs.length≤maxLen):
 Calls Tryz.prog 5 #[.slice a fs.length cap,.int .i64 left] w fun e w'=>e=.returned (.int .i64 (lR left fs))∧Below w.heap.size w w':=by
 unfold maxLen at hlen;by_cases c1:left - fs.length<0
 ·have e:lR left fs = -1:=by unfold lR;rw [if_neg];omega
  rw [e];clear hf hs;go_enter Tryz.func5,Tryz.ntmps5;go_wp2;go_ret;exact ⟨rfl,Below.refl _ _⟩
 ·have hne:¬(left - fs.length<0):=c1;have HF:Hid (oE w a fs):=hf;have HS:Hid (DH fs):=hs;clear hf hs;go_enter Tryz.func5,Tryz.ntmps5;go_wp2;go_loopw [1,5] (fun l i wr=>∃k:Nat,k≤fs.length∧i=.int .i64 k∧(uB (fs.take k):Int)≤left - fs.length∧l=.int .i64 (left - fs.length - uB (fs.take k))∧Below w.heap.size w wr) (fun _ i _=>fs.length - (intOf i).toNat)
  case atStart=>exact ⟨0,Nat.zero_le _,rfl,by simp [uB];omega,by simp [uB],Below.refl _ _⟩
  case round=>
   obtain ⟨k,hk,rfl,hle,rfl,hbel⟩:=hrel;by_cases hlt:k<fs.length
   ·obtain ⟨b,o,rfl,hb,c0,c1,cc2,cc3⟩:=(HF.out.later hbel).at hlt;have hss:=HS.out k hlt;have hts:=bK fs k hlt;have htl:=nM fs (k+1);by_cases c3:((fs[k].tenant.size+fs[k].text.size:Nat):Int)≤left - fs.length - uB (fs.take k)
    ·have e:qZ (left - fs.length - uB (fs.take k)) fs[k]=left - fs.length - uB (fs.take (k+1)):=by
      unfold qZ;rw [if_pos (by omega),hts];omega
     have E:Hid (qZ (left - fs.length - uB (fs.take k)) fs[k]=left - fs.length - uB (fs.take (k+1))):=e;have hle2:(uB (fs.take (k+1)):Int)≤left - fs.length:=by omega
     clear e hts;go_wp2_with fail;refine (MK fs[k] _ _ (by omega) (by omega) hss.1 hss.2).mono ?_;rintro e w' ⟨rfl,hb2⟩;rw [E.out];go_wp2;exact ⟨⟨k+1,by omega,by go_num,hle2,rfl,hbel.trans (hb2.mono hbel.size)⟩,by simp [intOf];omega⟩
    ·have e:qZ (left - fs.length - uB (fs.take k)) fs[k]= -1:=by
      unfold qZ;rw [if_neg (by omega)]
     have E:Hid (qZ (left - fs.length - uB (fs.take k)) fs[k]= -1):=e;have E2:Hid (lR left fs = -1):=by show lR left fs = -1;unfold lR;rw [if_neg (by omega)]
     clear e hts;go_wp2_with fail;refine (MK fs[k] _ _ (by omega) (by omega) hss.1 hss.2).mono ?_;rintro e w' ⟨rfl,hb2⟩;rw [E.out];go_wp2;go_ret;exact ⟨jB E2.out.symm,hbel.trans (hb2.mono hbel.size)⟩
   ·go_wp2;go_ret;have e:fs.take k=fs:=List.take_of_length_le (by omega);rw [e] at hle ⊢;exact ⟨jB (by unfold lR;rw [if_pos (by omega)]),hbel⟩
theorem aHl (ki:Int) (nm da:ByteArray) (nu:Int) (w:World):
 Calls Tryz.prog 29 #[.agg #[.int .i64 ki,.string nm,.string da,.int .i64 nu]] w fun e w'=>e=.returned (.agg #[.int .i64 ki,.string nm,.string da,.int .i64 nu])∧Below w.heap.size w w':=by
 go_enter Tryz.func29,Tryz.ntmps29;go_wp2;exact bodyPost_ret (v:=.agg #[.int .i64 ki,.string nm,.string da,.int .i64 nu]) (by simp [results,Tryz.results29,go_sem]) rfl ⟨rfl,(((Below.refl _ _).alloc (Nat.le_refl _) _).alloc (by simp) _).alloc (by simp;omega) _⟩
theorem aBn (a:Option Addr) (cap:Nat) (fs:List pC) (w:World) (hf:oE w a fs) (hlen:fs.length≤1048576):
 Calls Tryz.prog 9 #[.slice a fs.length cap] w fun e w'=>e=.returned (.slice (some ⟨w.heap.size,0,none⟩) fs.length fs.length)∧nQ w' w.heap.size (some ⟨w.heap.size,0,none⟩) fs∧Below w.heap.size w w'∧w.heap.size<w'.heap.size:=by
 have HF:Hid (oE w a fs):=hf;clear hf;have hmk:=aFr fs.length hlen;go_enter Tryz.func9,Tryz.ntmps9;go_wp2;go_loopw [4] (fun i wr=>∃k:Nat,k≤fs.length∧i=.int .i64 k∧pP wr w.heap.size fs.length fs k∧Below w.heap.size w wr∧w.heap.size<wr.heap.size) (fun i _=>fs.length - (intOf i).toNat)
 case atStart=>exact ⟨0,Nat.zero_le _,rfl,⟨_,heap_alloc_new _ _,size_madeCells _ _,fun i _ h=>absurd h (by omega)⟩,(Below.refl _ _).alloc (Nat.le_refl _) _,by simp⟩
 case round=>
  obtain ⟨k,hk,rfl,hfill,hbel,hsz⟩:=hrel;have HFill:Hid (pP wr w.heap.size fs.length fs k):=hfill;clear hfill hmk;by_cases hlt:k<fs.length
  ·obtain ⟨b,o,rfl,hb,c0,c1,cc2,cc3⟩:=(HF.out.later hbel).at hlt;go_wp2_with fail;refine (aHl _ _ _ _ _).mono ?_;rintro e w' ⟨rfl,hb2⟩;have hF2:=HFill.out.later hb2 hsz;obtain ⟨⟨v0,d0⟩,f0⟩:=hF2.cells (j:=k * 4) (by omega);obtain ⟨⟨v1,d1⟩,f1⟩:=hF2.cells (j:=k * 4+1) (by omega);obtain ⟨⟨v2,d2⟩,f2⟩:=hF2.cells (j:=k * 4+2) (by omega);obtain ⟨⟨v3,d3⟩,f3⟩:=hF2.cells (j:=k * 4+3) (by omega);have HF2:Hid (pP w' w.heap.size fs.length fs k):=hF2;clear hF2;go_wp2;exact ⟨⟨k+1,by omega,by go_num,HF2.out.step hlt (Nat.le_refl _),((((hbel.trans (hb2.mono hbel.size)).setCell (Nat.le_refl _) _).setCell (Nat.le_refl _) _).setCell (Nat.le_refl _) _).setCell (Nat.le_refl _) _,by have:=hb2.size;simp;omega⟩,by simp [intOf];omega⟩
  ·go_wp2;go_ret;have e:k=fs.length:=by omega
   exact ⟨rfl,by have:=HFill.out;rw [e] at this;exact this.done (Nat.le_refl _),hbel,hsz⟩
end Go.Proofs.YtcneojllbkacoaaGreatDoor
