import Derived.Test.YtcneojllbkacoaaGreatDoorJ21OpCfg
import Derived.Test.YtcneojllbkacoaaGreatDoorJ27SKept
import Derived.Test.YtcneojllbkacoaaGreatDoorJ23IdxA
set_option maxRecDepth 100000
set_option maxHeartbeats 8000000
namespace Go.Proofs.YtcneojllbkacoaaGreatDoor
open Go.RowKit
theorem oV {w8:World}{B g n cap:Nat}{e:TypeId}{ys:List TV} (h:w8.ownsRow B e 4 (.slice (some ⟨g,0,none⟩) n cap) n (fD ys)) (hn:ys.length=n):
 ∀i (hi:i<ys.length),w8.cell? ⟨g,i * 4,none⟩=some (.string ys[i].t.name)∧w8.cell? ⟨g,i * 4+1,none⟩=some (.int .i64 ys[i].t.limit)∧w8.cell? ⟨g,i * 4+2,none⟩=some (.slice ys[i].a1 ys[i].t.mets.length ys[i].c1)∧w8.cell? ⟨g,i * 4+3,none⟩=some (.slice ys[i].a2 ys[i].t.sers.length ys[i].c2)∧w8.frozen? ⟨g,i * 4+2,none⟩=false∧w8.frozen? ⟨g,i * 4+3,none⟩=false:=by
 intro i hi;rcases h.2 with ⟨he,_⟩ | ⟨g',cap',cur,he,hB,hg,_,_,hsz,htk⟩
 ·cases he
 ·simp only [Value.slice.injEq,Option.some.injEq,Addr.mk.injEq,and_true] at he;rw [←he.1] at hg;have hb:lA w8 g cur e:=hg;obtain ⟨f0,f1,f2,f3⟩:=KZ ys i hi;have hc:∀j,j<ys.length * 4→w8.cell? ⟨g,j,none⟩=(fD ys)[j]?:=fun j hj=>by
   rw [hb.cell j,←Array.getElem?_toList,←htk,List.getElem?_take_of_lt (by rw [←hn];exact hj)]
  refine ⟨?_,?_,?_,?_,hb.free _,hb.free _⟩
  ·rw [hc _ (by omega)];exact f0
  ·rw [hc _ (by omega)];exact f1
  ·rw [hc _ (by omega)];exact f2
  ·rw [hc _ (by omega)];exact f3
theorem ME {w:World}{B n size:Nat}{e:TypeId}{v:Value}{xs:List Value} (h:w.ownsRow B e size v n xs):∃a c,v=.slice a n c:=by
 rcases h.2 with ⟨e1,e2⟩ | ⟨g,cap,_,e1,_⟩
 ·exact ⟨none,0,by rw [e1,e2]⟩
 ·exact ⟨_,_,e1⟩
theorem MF {w:World}{B B':Nat}{e:TypeId}{size:Nat}{v:Value}{n:Nat}{xs:List Value} (h:w.ownsRow B e size v n xs) (hB:B'≤B):w.ownsRow B' e size v n xs:=
 ⟨h.1,h.2.imp id (fun ⟨g,cap,cur,e,hg,r⟩=>⟨g,cap,cur,e,Nat.le_trans hB hg,r⟩)⟩
theorem LP (l:List TV) (k:Nat) (hk:k<l.length) (Y:TV) (hY:Y.t=l[k].t):(l.set k Y).map (·.t)=l.map (·.t):=by
 refine List.ext_getElem (by simp) (fun i h1 h2=>?_);simp only [List.getElem_map,List.getElem_set];split
 ·rename_i e;subst e;exact hY
 ·rfl
theorem aU (now:Int) (a:Option Addr) (cap:Nat) (ts:List cA) (w:World) (hf:pB w a ts) (hlen:ts.length≤2000000) (hfit:∀t∈ts,t.mets.length≤2000000∧t.sers.length≤2000000):
 Calls Tryz.prog 67 #[.agg #[.int .i64 now,.slice a ts.length cap]] w fun e w'=>∃a' cap',e=.returned (.agg #[.int .i64 now,.slice a' ts.length cap'])∧eB w' w.heap.size a' ts∧Below w.heap.size w w':=by
 have HCL:Hid _:=fun W hW=>YJ a cap ts w W hf hW hlen;have HFT:=iA hfit;clear hf hfit;have B0:Hid (Below w.heap.size w ((w.alloc (.cells #[.int .i64 now,.slice a ts.length cap] 43)).alloc (.cells #[.int .i64 0,.slice none 0 0] 43))):=rA (bA _ _) (bA _ _);have P0:Hid (lA ((w.alloc (.cells #[.int .i64 now,.slice a ts.length cap] 43)).alloc (.cells #[.int .i64 0,.slice none 0 0] 43)) w.heap.size #[.int .i64 now,.slice a ts.length cap] 43):=(lA.new _ _ _).alloc _;have Q0:Hid _:=iA (by have:=lA.new (w.alloc (.cells #[.int .i64 now,.slice a ts.length cap] 43)) #[.int .i64 0,.slice none 0 0] 43;simpa using this);have hs0:w.heap.size+1<((w.alloc (.cells #[.int .i64 now,.slice a ts.length cap] 43)).alloc (.cells #[.int .i64 0,.slice none 0 0] 43)).heap.size:=by simp
 go_enter Tryz.func67,Tryz.ntmps67;go_wp2_with fail;refine (HCL.out _ B0.out).mono ?_;rintro e w1 ⟨v,ys0,rfl,ho1,hys,hold,hb1⟩;have P1:Hid (lA w1 w.heap.size #[.int .i64 now,.slice a ts.length cap] 43):=P0.out.later hb1;have Q1:Hid (lA w1 (w.heap.size+1) #[.int .i64 0,.slice none 0 0] 43):=Q0.out.later hb1;have BW1:Hid _:=rA B0.out hb1;have O1:=iA ho1;have HYS:=iA hys;have HOL:=iA hold;have y0:w1.cell? ⟨w.heap.size,1,none⟩=some (.slice a ts.length cap):=P1.out.cell 1;have fy:=P1.out.free 1;have hs1:=hb1.size;clear ho1 hys hold hb1 P0 Q0 B0 HCL;generalize ((w.alloc (.cells #[.int .i64 now,.slice a ts.length cap] 43)).alloc (.cells #[.int .i64 0,.slice none 0 0] 43))=w0 at *;have TP:Hid (dA (·=w.heap.size) w1 (w1.setCell ⟨w.heap.size,1,none⟩ v)):=(dA.refl (·=w.heap.size) w1).setCell (Or.inl rfl) 1 _;have P2:Hid _:=iA (by have:=P1.out.set 1 v;simpa using this);have Q2:Hid (lA (w1.setCell ⟨w.heap.size,1,none⟩ v) (w.heap.size+1) #[.int .i64 0,.slice none 0 0] 43):=TP.out.blk Q1.out (by omega);have BW2:Hid _:=BW1.out.trans (TP.out.below (by have:=BW1.out.size;omega) fun i hi e=>by omega);have O2:Hid ((w1.setCell ⟨w.heap.size,1,none⟩ v).ownsRow w0.heap.size 95 4 v ts.length (fD ys0)):=TP.out.row O1.out (fun q hq e=>by have:=(O1.out.lt q hq).1;omega);rcases O1.out.2 with ⟨hv,hn0⟩ | ⟨g,vc,cur,hv,hBg,_⟩
 ·subst hv;have hts:=List.length_eq_zero_iff.1 hn0;have x1:(w1.setCell ⟨w.heap.size,1,none⟩ (.slice none 0 0)).cell? ⟨w.heap.size,1,none⟩=some (.slice none 0 0):=P2.out.cell 1;subst hts;go_wp2;clear y0 fy x1 TP P1 Q1 BW1 O1 O2;generalize (w1.setCell ⟨w.heap.size,1,none⟩ (.slice none 0 0))=w2 at *;go_loopw [12] (fun i wr=>i=.int .i64 0∧w2=wr) (fun _ _=>0)
  case atStart=>exact ⟨rfl,rfl⟩
  case round=>
   obtain ⟨rfl,hw⟩:=hrel;subst hw;have RQ:=Q2;have RP:=P2;have BW:=BW2;have z0:w2.cell? ⟨w.heap.size+1,0,none⟩=some (.int .i64 0):=RQ.out.cell 0;have z1:w2.cell? ⟨w.heap.size+1,1,none⟩=some (.slice none 0 0):=RQ.out.cell 1;have fz0:=RQ.out.free 0;have fz1:=RQ.out.free 1;have s0:w2.cell? ⟨w.heap.size,0,none⟩=some (.int .i64 now):=RP.out.cell 0;have s1:w2.cell? ⟨w.heap.size,1,none⟩=some (.slice none 0 0):=RP.out.cell 1;have hwl:=aA RQ.out;go_wp2;have HTE:dA (·=w.heap.size+1) w2 ((w2.setCell ⟨w.heap.size+1,0,none⟩ (.int .i64 now)).setCell ⟨w.heap.size+1,1,none⟩ (.slice none 0 0)):=((dA.refl (·=w.heap.size+1) w2).setCell (Or.inl rfl) 0 _).setCell (Or.inl rfl) 1 _;refine bodyPost_ret (v:=.agg #[.int .i64 now,.slice none 0 0]) (by simp [results,Tryz.results67,go_sem,z0,z1]) rfl ?_;have ho:eB ((w2.setCell ⟨w.heap.size+1,0,none⟩ (.int .i64 now)).setCell ⟨w.heap.size+1,1,none⟩ (.slice none 0 0)) w.heap.size none []:=Or.inl rfl;have hbe:=((dA.of (S:=fun i=>w.heap.size≤i) BW.out).trans' (HTE.mono fun i _ e=>by omega)).below (Nat.le_refl _) fun i hi h=>by omega
   first
    | exact ⟨none,⟨0,rfl⟩,ho,hbe⟩
    | exact ⟨none,0,rfl,ho,hbe⟩
 ·subst hv;have x1:(w1.setCell ⟨w.heap.size,1,none⟩ (.slice (some ⟨g,0,none⟩) ts.length vc)).cell? ⟨w.heap.size,1,none⟩=some (.slice (some ⟨g,0,none⟩) ts.length vc):=P2.out.cell 1;have HC0:Hid (CpR w (w1.setCell ⟨w.heap.size,1,none⟩ (.slice (some ⟨g,0,none⟩) ts.length vc)) w0.heap.size g ts.length vc (fun _=>0) ys0 0 false):=by
   have hyl:ys0.length=ts.length:=by rw [←HYS.out,List.length_map]
   refine iA { row:=O2.out,len:=hyl,tg:=rfl,own:=fun i _ h=>absurd h (by omega),half:=fun h=>(by cases h),old:=fun i hi _=>?_};obtain ⟨p1,p2⟩:=HOL.out ys0[i] (List.getElem_mem hi);exact ⟨p2,fun _=>p1⟩
  go_wp2;clear y0 fy x1 TP P1 Q1 BW1 O1 O2 HOL;have hs2:w0.heap.size≤(w1.setCell ⟨w.heap.size,1,none⟩ (.slice (some ⟨g,0,none⟩) ts.length vc)).heap.size:=by simp;exact hs1
  generalize (w1.setCell ⟨w.heap.size,1,none⟩ (.slice (some ⟨g,0,none⟩) ts.length vc))=w2 at *;go_loopw [12] (fun i wr=>∃(k:Nat) (T:Nat→Nat) (ys:List TV),k≤ts.length∧i=.int .i64 k∧Hid (CpR w wr w0.heap.size g ts.length vc T ys k false)∧Hid (ys.map (·.t)=ts)∧Hid (lA wr w.heap.size #[.int .i64 now,.slice (some ⟨g,0,none⟩) ts.length vc] 43)∧Hid (lA wr (w.heap.size+1) #[.int .i64 0,.slice none 0 0] 43)∧Hid (Below w.heap.size w wr)∧w0.heap.size≤wr.heap.size) (fun i _=>ts.length - (intOf i).toNat)
  case atStart=>exact ⟨0,_,ys0,Nat.zero_le _,rfl,HC0.out,HYS.out,P2.out,Q2.out,BW2.out,hs2⟩
  case round=>
   obtain ⟨k,T,ys,hk,rfl,HC,HY,RP,RQ,BW,hsr⟩:=hrel;clear HC0 HYS P2 Q2 BW2;have hyl:ys.length=ts.length:=by rw [←HY.out,List.length_map]
   by_cases hlt:k<ts.length
   ·have hky:k<ys.length:=by omega
    obtain ⟨c0,c1,c2,c3,f2,f3⟩:=oV HC.out.row HC.out.len k hky;have s1:wr.cell? ⟨w.heap.size,1,none⟩=some (.slice (some ⟨g,0,none⟩) ts.length vc):=RP.out.cell 1;have hsw:=aA RQ.out;go_wp2;have hal:=bA wr (.cells #[.string ys[k].t.name,.int .i64 ys[k].t.limit,.slice ys[k].a1 ys[k].t.mets.length ys[k].c1,.slice ys[k].a2 ys[k].t.sers.length ys[k].c2] 95);have BX:Hid (lA (wr.alloc (.cells #[.string ys[k].t.name,.int .i64 ys[k].t.limit,.slice ys[k].a1 ys[k].t.mets.length ys[k].c1,.slice ys[k].a2 ys[k].t.sers.length ys[k].c2] 95)) wr.heap.size #[.string ys[k].t.name,.int .i64 ys[k].t.limit,.slice ys[k].a1 ys[k].t.mets.length ys[k].c1,.slice ys[k].a2 ys[k].t.sers.length ys[k].c2] 95):=lA.new _ _ _;have CB:Hid _:=HC.out.keep (S:=fun _=>False) (dA.of hal) (fun _ e=>e.elim);have RPb:=iA (RP.out.later hal);have RQb:=iA (RQ.out.later hal);have BWb:Hid _:=rA BW.out hal;have hsb:w0.heap.size≤(wr.alloc (.cells #[.string ys[k].t.name,.int .i64 ys[k].t.limit,.slice ys[k].a1 ys[k].t.mets.length ys[k].c1,.slice ys[k].a2 ys[k].t.sers.length ys[k].c2] 95)).heap.size:=by have:=hal.size;omega
    have hgw:=(HC.out.row.lt g rfl).2;have hwb:wr.heap.size<(wr.alloc (.cells #[.string ys[k].t.name,.int .i64 ys[k].t.limit,.slice ys[k].a1 ys[k].t.mets.length ys[k].c1,.slice ys[k].a2 ys[k].t.sers.length ys[k].c2] 95)).heap.size:=by simp
    obtain ⟨hO2,hO1⟩:=HC.out.old k hky (Nat.le_refl _);have hO1:=hO1 (Or.inl rfl);have hmem:ys[k].t∈ts:=by rw [←HY.out];exact List.mem_map.2 ⟨ys[k],List.getElem_mem hky,rfl⟩
    obtain ⟨hl1,hl2⟩:=HFT.out _ hmem;have HM:Hid (∀W0 W,Below w.heap.size w W0→Below W0.heap.size W0 W→Calls Tryz.prog 109 #[.slice ys[k].a1 ys[k].t.mets.length ys[k].c1] W fun e w'=>∃v,e=.returned v∧w'.ownsRow W0.heap.size 149 2 v ys[k].t.mets.length (flatK ys[k].t.mets)∧Below W0.heap.size W0 w'):=fun W0 W h0 hW=>(YI ys[k].a1 ys[k].c1 ys[k].t.mets W (hO1.later (rA h0 hW)) hl1).mono fun e w' ⟨v,h1,h2,h3⟩=>⟨v,h1,MF h2 hW.size,rA hW h3⟩
    have HS:Hid (∀W0 W,Below w.heap.size w W0→Below W0.heap.size W0 W→Calls Tryz.prog 110 #[.slice ys[k].a2 ys[k].t.sers.length ys[k].c2] W fun e w'=>∃v,e=.returned v∧w'.ownsRow W0.heap.size 151 2 v ys[k].t.sers.length (flatK ys[k].t.sers)∧Below W0.heap.size W0 w'):=fun W0 W h0 hW=>(YK ys[k].a2 ys[k].c2 ys[k].t.sers W (hO2.later (rA h0 hW)) hl2).mono fun e w' ⟨v,h1,h2,h3⟩=>⟨v,h1,MF h2 hW.size,rA hW h3⟩
    clear c0 c1 c2 c3 f2 f3 s1 hO1 hO2 hmem hl1 hl2 HC RP RQ BW;generalize (wr.alloc (.cells #[.string ys[k].t.name,.int .i64 ys[k].t.limit,.slice ys[k].a1 ys[k].t.mets.length ys[k].c1,.slice ys[k].a2 ys[k].t.sers.length ys[k].c2] 95))=wb at *;have s1:wb.cell? ⟨w.heap.size,1,none⟩=some (.slice (some ⟨g,0,none⟩) ts.length vc):=RPb.out.cell 1;have b2:wb.cell? ⟨wr.heap.size,2,none⟩=some (.slice ys[k].a1 ys[k].t.mets.length ys[k].c1):=BX.out.cell 2;clear hal;go_region_law
     (refine cC (f:=109) (args:=#[.slice ys[k].a1 ys[k].t.mets.length ys[k].c1]) rfl (by go_simp) ?_;refine (HM.out wb _ BWb.out (Below.refl _ _).drew).mono ?_;rintro e w5 ⟨v5,rfl,ho5,hb5⟩;obtain ⟨a5,d5,rfl⟩:=ME ho5;obtain ⟨_,_,c25,_,f25,_⟩:=oV (yA CB.out.row hb5) CB.out.len k hky;have s15:=(RPb.out.later hb5).cell 1;have O5:=iA ho5;have hsz5:=hb5.size;have B5:=iA hb5;clear ho5 hb5;refine ⟨_,rfl,?_⟩)
    all_goals (
     have TG:dA (·=g) w5 (w5.setCell ⟨g,k * 4+2,none⟩ (.slice a5 ys[k].t.mets.length d5)):=(dA.refl (·=g) w5).setCell (Or.inl rfl) _ _
     have C6:=iA (CB.out.limits hky B5.out hsb O5.out)
     have RP6:=iA (TG.blk (RPb.out.later B5.out) (show ¬w.heap.size=g by omega))
     have RQ6:=iA (TG.blk (RQb.out.later B5.out) (show ¬w.heap.size+1=g by omega))
     have BX6:=iA (TG.blk (BX.out.later B5.out) (show ¬wr.heap.size=g by omega))
     have BW6:Hid _:=(rA BWb.out B5.out).trans (TG.below (by omega) fun i hi e=>by omega)
     have hs6:w0.heap.size≤(w5.setCell ⟨g,k * 4+2,none⟩ (.slice a5 ys[k].t.mets.length d5)).heap.size:=by simp;omega
     have hw6:wr.heap.size<(w5.setCell ⟨g,k * 4+2,none⟩ (.slice a5 ys[k].t.mets.length d5)).heap.size:=by simp;omega
     have HY6:Hid _:=(LP ys k hky ⟨ys[k].t,a5,d5,ys[k].a2,ys[k].c2⟩ rfl).trans HY.out
     clear c25 f25 s15 TG s1 b2 CB RPb RQb BX BWb
     generalize (w5.setCell ⟨g,k * 4+2,none⟩ (.slice a5 ys[k].t.mets.length d5))=w6 at *
     generalize (fun g=>if g<wb.heap.size then T g else 2 * k+1)=T6 at *)
    all_goals (
     have s1:w6.cell? ⟨w.heap.size,1,none⟩=some (.slice (some ⟨g,0,none⟩) ts.length vc):=RP6.out.cell 1
     have b3:w6.cell? ⟨wr.heap.size,3,none⟩=some (.slice ys[k].a2 ys[k].t.sers.length ys[k].c2):=BX6.out.cell 3)
    all_goals go_wp2_with fail
    all_goals go_region_law
     (refine cC (f:=110) (args:=#[.slice ys[k].a2 ys[k].t.sers.length ys[k].c2]) rfl (by go_simp) ?_;refine (HS.out w6 _ BW6.out (Below.refl _ _).drew).mono ?_;rintro e w7 ⟨v7,rfl,ho7,hb7⟩;obtain ⟨a7,d7,rfl⟩:=ME ho7;obtain ⟨_,_,_,c37,_,f37⟩:=oV (yA C6.out.row hb7) C6.out.len k (by simpa using hky);have s17:=(RP6.out.later hb7).cell 1;have O7:=iA ho7;have hsz7:=hb7.size;have B7:=iA hb7;clear ho7 hb7;refine ⟨_,rfl,?_⟩)
    all_goals (
     have TG:dA (·=g) w7 (w7.setCell ⟨g,k * 4+3,none⟩ (.slice a7 ys[k].t.sers.length d7)):=(dA.refl (·=g) w7).setCell (Or.inl rfl) _ _
     have hk6:k<(ys.set k ⟨ys[k].t,a5,d5,ys[k].a2,ys[k].c2⟩).length:=by simpa using hky
     have C8:=C6.out.series (a:=a7) (c:=d7) hk6 B7.out hs6 (by simp only [List.getElem_set_self];exact O7.out)
     simp only [List.getElem_set_self,List.set_set] at C8
     have C8:=iA C8
     have RP8:=iA (TG.blk (RP6.out.later B7.out) (show ¬w.heap.size=g by omega))
     have RQ8:=iA (TG.blk (RQ6.out.later B7.out) (show ¬w.heap.size+1=g by omega))
     have BW8:Hid _:=(rA BW6.out B7.out).trans (TG.below (by omega) fun i hi e=>by omega)
     have hs8:w0.heap.size≤(w7.setCell ⟨g,k * 4+3,none⟩ (.slice a7 ys[k].t.sers.length d7)).heap.size:=by simp;omega
     have HY8:Hid _:=(LP ys k hky ⟨ys[k].t,a5,d5,a7,d7⟩ rfl).trans HY.out
     clear c37 f37 s17 TG s1 b3 C6 RP6 RQ6 BX6 BW6
     generalize (w7.setCell ⟨g,k * 4+3,none⟩ (.slice a7 ys[k].t.sers.length d7))=w8 at *
     go_wp2
     exact ⟨⟨k+1,_,_,by omega,by go_num,C8.out,HY8.out,RP8.out,RQ8.out,BW8.out,hs8⟩,by simp [intOf];omega⟩)
   ·have ek:k=ts.length:=by omega
    subst ek;have HCK:=HC;clear HC;have z0:wr.cell? ⟨w.heap.size+1,0,none⟩=some (.int .i64 0):=RQ.out.cell 0;have z1:wr.cell? ⟨w.heap.size+1,1,none⟩=some (.slice none 0 0):=RQ.out.cell 1;have fz0:=RQ.out.free 0;have fz1:=RQ.out.free 1;have s0:wr.cell? ⟨w.heap.size,0,none⟩=some (.int .i64 now):=RP.out.cell 0;have s1:wr.cell? ⟨w.heap.size,1,none⟩=some (.slice (some ⟨g,0,none⟩) ts.length vc):=RP.out.cell 1;have hwl:=aA RQ.out;go_wp2;have HTE:dA (·=w.heap.size+1) wr ((wr.setCell ⟨w.heap.size+1,0,none⟩ (.int .i64 now)).setCell ⟨w.heap.size+1,1,none⟩ (.slice (some ⟨g,0,none⟩) ts.length vc)):=((dA.refl (·=w.heap.size+1) wr).setCell (Or.inl rfl) 0 _).setCell (Or.inl rfl) 1 _;refine bodyPost_ret (v:=.agg #[.int .i64 now,.slice (some ⟨g,0,none⟩) ts.length vc]) (by simp [results,Tryz.results67,go_sem,z0,z1]) rfl ?_;have ho:eB ((wr.setCell ⟨w.heap.size+1,0,none⟩ (.int .i64 now)).setCell ⟨w.heap.size+1,1,none⟩ (.slice (some ⟨g,0,none⟩) ts.length vc)) w.heap.size (some ⟨g,0,none⟩) ts:=(eB.mono (eB.turned (HCK.out.done HY.out) HTE (fun q h1 h2 e=>by omega)) (by omega))
    have hbe:=((dA.of (S:=fun i=>w.heap.size≤i) BW.out).trans' (HTE.mono fun i _ e=>by omega)).below (Nat.le_refl _) fun i hi h=>by omega
    first
     | exact ⟨(some ⟨g,0,none⟩),⟨vc,rfl⟩,ho,hbe⟩
     | exact ⟨(some ⟨g,0,none⟩),vc,rfl,ho,hbe⟩
theorem wD.take {w:World}{g cap n:Nat}{hs:List rF} (h:wD w g cap hs) (hn:n≤hs.length):wD w g cap (hs.take n):=by
 obtain ⟨cur,h1,h2,h3,h4,h5⟩:=h;refine ⟨cur,h1,h2,by rw [List.length_take];omega,h4,fun k hk=>?_⟩;rw [List.length_take] at hk;have e:rB (hs.take n) k=rB hs k:=by simp [rB,List.getD,List.getElem?_take_of_lt (show k<n by omega)]
 rw [e];exact h5 k (by omega)
theorem EX (x o g n cap k:Nat) (hs:List rF) (w:World) (hp:w.cell? ⟨x,o,none⟩=some (.slice (some ⟨g,0,none⟩) n cap)) (hn:n=hs.length) (hH:wD w g cap hs) (hk:k≤1000000000):
 Calls Tryz.prog 251 #[.pointer (some ⟨x,o,none⟩),.int .i64 k] w fun e w'=>e=.returned (.int .i64 (uC hs k:Nat))∧Below w.heap.size w w':=by
 have HC:Hid (uC hs k=if 2 * k+2<hs.length∧(rB hs (2 * k+2)).t<(rB hs (2 * k+1)).t then 2 * k+2 else 2 * k+1):=rfl;obtain ⟨r,hrd⟩:∃r,r=2 * k+2:=⟨_,rfl⟩
 obtain ⟨q,hqd⟩:∃q,q=2 * k+1:=⟨_,rfl⟩
 rw [←hrd,←hqd] at HC;have hr:2 * (k:Int)+2=(r:Nat):=by omega
 have hq:2 * (k:Int)+1=(q:Nat):=by omega
 have hr9:r≤2000000002:=by omega
 have hq9:q≤2000000001:=by omega
 have hqr:q<r:=by omega
 have d0:=pA.cells hp;have hnel:=pA.there w;clear hrd hqd;by_cases h1:r<n
 ·obtain ⟨a0,a1,_,_⟩:=hH.cells (k:=r) (by omega);obtain ⟨b0,b1,_,_⟩:=hH.cells (k:=q) (by omega);have d1:=pA.cells a0;have d2:=pA.cells a1;have d3:=pA.cells b0;have d4:=pA.cells b1;have HN:Hid _:=hn;clear a0 a1 b0 b1 hp hH hn;generalize uC hs k=CH at *;generalize rB hs r=A at *;generalize rB hs q=C at *;have hqn:q<n:=by omega
  go_enter Tryz.func251,Tryz.ntmps251;go_wp2_with fail;refine fA (by kernel_rfl) (by kernel_rfl) ?_;repeat (go_big_quiet_step (fail))
  refine mP (by rfl) (fun W=>iS _ _ _ _ _ _ rfl rfl rfl (bR _ _ W)) (by rintro _ ⟨x,rfl⟩;exact oA (uU _ _ _ _ _)) ?_;simp only [Act.put,List.setIfInBounds_toArray,List.set_cons_succ,List.set_cons_zero];repeat (go_big_quiet_step (fail))
  refine wpQuiet_nil ?_;rintro _ ⟨y,rfl⟩;have HY:Hid _:=y.h;clear d0 d1 d2 d3 d4 hnel;generalize y.w'=W2 at *;clear y;by_cases hAC:A.t<C.t
  ·have hd:decide (A.t<C.t)=true:=by simpa using hAC
   rw [hd];have HV:Hid (CH=r):=by show _=_;rw [HC.out,if_pos ⟨by rw [←HN.out];exact h1,hAC⟩]
   go_wp2;go_ret;exact ⟨jB (by rw [HV.out]),HY.out⟩
  ·have hd:decide (A.t<C.t)=false:=by simpa using hAC
   rw [hd];have HV:Hid (CH=q):=by show _=_;rw [HC.out,if_neg (fun h=>hAC h.2)]
   go_wp2;go_ret;exact ⟨jB (by rw [HV.out]),HY.out⟩
 ·have HV:Hid (uC hs k=q):=by show _=_;rw [HC.out,if_neg (fun h=>h1 (by rw [hn];exact h.1))]
  clear hp hH hn HC;generalize uC hs k=CH at *;have hrn:¬((r:Int)<n):=by omega
  go_enter Tryz.func251,Tryz.ntmps251;go_wp2_with fail;refine fA (by kernel_rfl) (by kernel_rfl) ?_;repeat (go_big_quiet_step (fail))
  refine wpQuiet_nil ?_;rintro _ ⟨y,rfl⟩;have HY:Hid _:=y.h;clear d0 hnel;generalize y.w'=W2 at *;clear y;go_wp2;go_ret;exact ⟨jB (by rw [HV.out]),HY.out⟩
theorem aMw (x o g cap:Nat) (hs:List rF) (w:World) (cx:Array Value) (tx:TypeId) (hX:lA w x cx tx) (ho:cx[o]?=some (.slice (some ⟨g,0,none⟩) hs.length cap)) (hM:wD w g cap hs) (hne:g≠x) (h0:0<hs.length) (hn:hs.length≤1000000000):
 Calls Tryz.prog 223 #[.pointer (some ⟨x,o,none⟩)] w fun e w'=>e=.returned (.agg #[.pointer (some ⟨(rB hs 0).b,0,none⟩),.int .i64 (rB hs 0).t])∧lA w' x (cx.setIfInBounds o (.slice (some ⟨g,0,none⟩) (hs.length - 1) cap)) tx∧wD w' g cap (lK hs)∧dA (fun k=>k=x∨k=g) w w':=by
 obtain ⟨la,hlad⟩:∃la,la=hs.length - 1:=⟨_,rfl⟩
 have hla:(hs.length:Int) - 1=(la:Nat):=by omega
 have hl1:la<hs.length:=by omega
 have hln:hs.length=la+1:=by omega
 have hcl:hs.length≤cap:=by obtain ⟨cur,_,_,h3,_⟩:=hM;exact h3
 have hlc:la≤cap:=by omega
 have hgl:=hM.lt;have hxl:=aA hX;have HPOP:Hid (lK hs=jJ ((fE hs 0 la).take la) 0):=by show _=_;rw [hlad];rfl
 have HTOP:Hid (rB (fE hs 0 la) la=rB hs 0):=by show _=_;rw [vF h0 hl1,if_pos rfl]
 have HSW0:Hid (∀W,Below w.heap.size w W→Calls Tryz.prog 250 #[.pointer (some ⟨x,o,none⟩),.int .i64 0,.int .i64 la] W fun e w'=>e=.returned (.tuple #[])∧wD w' g cap (fE hs 0 la)∧bE g W w'):=fun W hW=>by
  have:=GX x o g hs.length cap 0 la hs W (by rw [(hX.later hW).cell];exact ho) rfl (hM.later hW) h0 hl1;simpa using this
 have c0:w.cell? ⟨x,o,none⟩=some (.slice (some ⟨g,0,none⟩) hs.length cap):=by rw [hX.cell];exact ho
 have hoc:=(Array.getElem?_eq_some_iff.1 ho).1;obtain ⟨cx1,hcd⟩:∃c,c=cx.setIfInBounds o (.slice (some ⟨g,0,none⟩) la cap):=⟨_,rfl⟩
 have hcx:cx1[o]?=some (.slice (some ⟨g,0,none⟩) la cap):=by rw [hcd];simp [hoc]
 have HX:=iA hX;have HO:Hid _:=ho;rw [←hlad,←hcd];have HCD:Hid _:=hcd;have HFC:Hid (∀(k:Nat) (l:List rF) (W:World),lA W x cx1 tx→wD W g cap l→l.length=la→k≤1000000000→Calls Tryz.prog 251 #[.pointer (some ⟨x,o,none⟩),.int .i64 k] W fun e w'=>e=.returned (.int .i64 (uC l k:Nat))∧Below W.heap.size W w'):=fun k l W hb hm hl hk=>EX x o g la cap k l W (by rw [hb.cell];exact hcx) hl.symm hm hk;have HSW:Hid (∀(i j:Nat) (l:List rF) (W:World),lA W x cx1 tx→wD W g cap l→l.length=la→i<la→j<la→Calls Tryz.prog 250 #[.pointer (some ⟨x,o,none⟩),.int .i64 i,.int .i64 j] W fun e w'=>e=.returned (.tuple #[])∧wD w' g cap (fE l i j)∧bE g W w'):=fun i j l W hb hm hl hi hj=>GX x o g la cap i j l W (by rw [hb.cell];exact hcx) hl.symm hm hi hj;generalize hpl:lK hs=PL at *;generalize htp:rB hs 0=TP at *;clear hX ho hM hcd hlad hpl htp;have B0:Hid (Below w.heap.size w (w.alloc (.cells #[.pointer none,.int .i64 0] 309))):=bA _ _;have P0:Hid (lA (w.alloc (.cells #[.pointer none,.int .i64 0] 309)) w.heap.size #[.pointer none,.int .i64 0] 309):=lA.new _ _ _;have e0:=(B0.out.cell hxl).trans c0;go_enter Tryz.func223,Tryz.ntmps223;go_wp2_with fail;refine (HSW0.out _ B0.out).mono ?_;rintro e w1 ⟨rfl,hM1,hb1⟩;have HM1:=iA hM1;have hs1:=hb1.size;have hsa:(w.alloc (.cells #[.pointer none,.int .i64 0] 309)).heap.size=w.heap.size+1:=by simp
 have X1:Hid (lA w1 x cx tx):=(HX.out.later B0.out).but hb1 hne.symm;have P1:Hid (lA w1 w.heap.size #[.pointer none,.int .i64 0] 309):=P0.out.but hb1 (by omega);have T1:Hid (dA (fun k=>k=x∨k=g) w w1):=(dA.of B0.out).trans' ((dA.but hb1).mono fun i _ e=>Or.inr e);have hs1':w.heap.size+1≤w1.heap.size:=by omega
 obtain ⟨a0,a1,_,_⟩:=hM1.cells (k:=la) (by rw [xB];exact hl1);rw [HTOP.out] at a0 a1;have x0:w1.cell? ⟨x,o,none⟩=some (.slice (some ⟨g,0,none⟩) hs.length cap):=by rw [X1.out.cell];exact HO.out
 have fx0:=X1.out.free o;clear hM1 hb1 HSW0 B0 P0 e0 c0 HX hsa hs1;have hw1:w1.heap.size<(w1.alloc (.cells #[.pointer (some ⟨TP.b,0,none⟩),.int .i64 TP.t] 309)).heap.size:=by simp
 have xa:(w1.alloc (.cells #[.pointer (some ⟨TP.b,0,none⟩),.int .i64 TP.t] 309)).cell? ⟨x,o,none⟩=some (.slice (some ⟨g,0,none⟩) hs.length cap):=((X1.out.alloc _).cell o).trans HO.out;have fa:=(X1.out.alloc (.cells #[.pointer (some ⟨TP.b,0,none⟩),.int .i64 TP.t] 309)).free o;have XS:Hid (lA ((w1.alloc (.cells #[.pointer (some ⟨TP.b,0,none⟩),.int .i64 TP.t] 309)).setCell ⟨x,o,none⟩ (.slice (some ⟨g,0,none⟩) la cap)) x cx1 tx):=iA (by rw [HCD.out];exact (X1.out.alloc _).set o _);have TXO:dA (·=x) (w1.alloc (.cells #[.pointer (some ⟨TP.b,0,none⟩),.int .i64 TP.t] 309)) ((w1.alloc (.cells #[.pointer (some ⟨TP.b,0,none⟩),.int .i64 TP.t] 309)).setCell ⟨x,o,none⟩ (.slice (some ⟨g,0,none⟩) la cap)):=(dA.refl (·=x) _).setCell (Or.inl rfl) o _;have MS:Hid (wD ((w1.alloc (.cells #[.pointer (some ⟨TP.b,0,none⟩),.int .i64 TP.t] 309)).setCell ⟨x,o,none⟩ (.slice (some ⟨g,0,none⟩) la cap)) g cap ((fE hs 0 la).take la)):=by
  refine iA ?_;have h1:wD ((w1.alloc (.cells #[.pointer (some ⟨TP.b,0,none⟩),.int .i64 TP.t] 309)).setCell ⟨x,o,none⟩ (.slice (some ⟨g,0,none⟩) la cap)) g cap (fE hs 0 la):=by
   obtain ⟨cur,m1,m2⟩:=HM1.out.later (bA w1 (.cells #[.pointer (some ⟨TP.b,0,none⟩),.int .i64 TP.t] 309));exact ⟨cur,TXO.blk m1 hne,m2⟩
  exact h1.take (by rw [xB];omega)
 have PS:Hid (lA ((w1.alloc (.cells #[.pointer (some ⟨TP.b,0,none⟩),.int .i64 TP.t] 309)).setCell ⟨x,o,none⟩ (.slice (some ⟨g,0,none⟩) la cap)) w.heap.size #[.pointer none,.int .i64 0] 309):=TXO.blk (P1.out.alloc _) (by omega);have QS:Hid (lA ((w1.alloc (.cells #[.pointer (some ⟨TP.b,0,none⟩),.int .i64 TP.t] 309)).setCell ⟨x,o,none⟩ (.slice (some ⟨g,0,none⟩) la cap)) w1.heap.size #[.pointer (some ⟨TP.b,0,none⟩),.int .i64 TP.t] 309):=TXO.blk (lA.new _ _ _) (by omega);have TS:Hid _:=((T1.out.trans' (dA.of (bA _ _))).trans' (TXO.mono fun i _ e=>Or.inl e))
 have HLT:Hid (((fE hs 0 la).take la).length=la):=by show _=_;rw [List.length_take,xB];omega
 clear TXO HM1 X1 P1 T1 HO HTOP;generalize (fE hs 0 la).take la=l0 at *;go_wp2;clear xa fa a0 a1 x0 fx0 hw1;generalize ((w1.alloc (.cells #[.pointer (some ⟨TP.b,0,none⟩),.int .i64 TP.t] 309)).setCell ⟨x,o,none⟩ (.slice (some ⟨g,0,none⟩) la cap))=w2 at *;go_loopw [5] (fun a wr=>∃(k:Nat) (l:List rF),a=.int .i64 k∧k≤la∧l.length=la∧Hid (lA wr x cx1 tx)∧Hid (wD wr g cap l)∧Hid (PL=jJ l k)∧Hid (lA wr w.heap.size #[.pointer none,.int .i64 0] 309)∧Hid (lA wr w1.heap.size #[.pointer (some ⟨TP.b,0,none⟩),.int .i64 TP.t] 309)∧Hid (dA (fun k=>k=x∨k=g) w wr)) (fun a _=>la - (intOf a).toNat)
 case atStart=>exact ⟨0,l0,rfl,Nat.zero_le _,HLT.out,XS.out,MS.out,HPOP.out,PS.out,QS.out,TS.out⟩
 case round=>
  obtain ⟨k,l,rfl,hk,hl,HX2,HM2,HV2,HP2,HQ2,HT2⟩:=hrel;have HL:=iA hl;have h2:=zH l k;have HGO:Hid (uC l k<l.length→(rB l (uC l k)).t<(rB l k).t→jJ l k=jJ (fE l k (uC l k)) (uC l k)):=fun a b=>MJ ⟨a,b⟩;have HEN:Hid (¬(uC l k<l.length∧(rB l (uC l k)).t<(rB l k).t)→jJ l k=l):=tV;have HFC1:=iA (HFC.out k l wr HX2.out HM2.out hl (by omega));clear hl;generalize hch:uC l k=ch at *;clear hch;go_wp2_with fail;refine HFC1.out.mono ?_;rintro e w3 ⟨rfl,hb3⟩;have B3:=iA hb3;have X3:Hid (lA w3 x cx1 tx):=HX2.out.later hb3;have M3:Hid (wD w3 g cap l):=HM2.out.later hb3;have P3:Hid (lA w3 w.heap.size #[.pointer none,.int .i64 0] 309):=HP2.out.later hb3;have Q3:Hid (lA w3 w1.heap.size #[.pointer (some ⟨TP.b,0,none⟩),.int .i64 TP.t] 309):=HQ2.out.later hb3;have T3:Hid _:=HT2.out.trans' (dA.of hb3);clear hb3 HFC1 HX2 HM2 HP2 HQ2 HT2 B3;have k1:w3.cell? ⟨x,o,none⟩=some (.slice (some ⟨g,0,none⟩) la cap):=by rw [X3.out.cell];exact hcx
  have d0:=pA.cells k1;have hnel:=pA.there w3;by_cases hge:la≤ch
  ·have HV9:Hid (PL=l):=by show _=_;rw [HV2.out];exact HEN.out (fun h=>by have:=HL.out;omega)
   have hgi:¬((ch:Int)<la):=by omega
   clear HGO HEN HSW;go_wp2_with fail;refine fA (by kernel_rfl) (by kernel_rfl) ?_;repeat (go_big_quiet_step (fail))
   refine wpQuiet_nil ?_;rintro _ ⟨y,rfl⟩;have X9:Hid (lA y.w' x cx1 tx):=X3.out.later y.h;have M9:Hid (wD y.w' g cap l):=M3.out.later y.h;have P9:Hid (lA y.w' w.heap.size #[.pointer none,.int .i64 0] 309):=P3.out.later y.h;have Q9:Hid (lA y.w' w1.heap.size #[.pointer (some ⟨TP.b,0,none⟩),.int .i64 TP.t] 309):=Q3.out.later y.h;have T9:Hid _:=T3.out.trans' (dA.of y.h);clear d0 hnel k1 X3 M3 P3 Q3 T3;generalize y.w'=W2 at *;clear y;have z0:W2.cell? ⟨w.heap.size,0,none⟩=some (.pointer none):=P9.out.cell 0;have z1:W2.cell? ⟨w.heap.size,1,none⟩=some (.int .i64 0):=P9.out.cell 1;have fz0:=P9.out.free 0;have fz1:=P9.out.free 1;have q0:W2.cell? ⟨w1.heap.size,0,none⟩=some (.pointer (some ⟨TP.b,0,none⟩)):=Q9.out.cell 0;have q1:W2.cell? ⟨w1.heap.size,1,none⟩=some (.int .i64 TP.t):=Q9.out.cell 1;have hwl:=aA P9.out;go_wp2;have HTE9:dA (·=w.heap.size) W2 ((W2.setCell ⟨w.heap.size,0,none⟩ (.pointer (some ⟨TP.b,0,none⟩))).setCell ⟨w.heap.size,1,none⟩ (.int .i64 TP.t)):=((dA.refl (·=w.heap.size) W2).setCell (Or.inl rfl) 0 _).setCell (Or.inl rfl) 1 _;refine bodyPost_ret (v:=.agg #[.pointer (some ⟨TP.b,0,none⟩),.int .i64 TP.t]) (by simp [results,Tryz.results223,go_sem,z0,z1]) rfl ⟨rfl,HTE9.blk X9.out (by omega),?_,T9.out.trans (HTE9.mono fun i _ e=>Or.inr (by omega))⟩;rw [HV9.out];exact (show ∀{a b:World}{l:List rF},wD a g cap l→dA (·=w.heap.size) a b→wD b g cap l from fun h ht=>by obtain ⟨cur,h1,h2⟩:=h;exact ⟨cur,ht.blk h1 (by omega),h2⟩) M9.out HTE9
  ·have hcl2:ch<la:=by omega
   have hkl:k<la:=by omega
   obtain ⟨a0,a1,_,_⟩:=M3.out.cells (k:=ch) (by rw [HL.out];exact hcl2);obtain ⟨b0,b1,_,_⟩:=M3.out.cells (k:=k) (by rw [HL.out];exact hkl);have d1:=pA.cells a0;have d2:=pA.cells a1;have d3:=pA.cells b0;have d4:=pA.cells b1;have HSW1:=iA (fun W h1 h2=>HSW.out k ch l W h1 h2 HL.out hkl hcl2);clear a0 a1 b0 b1 k1;generalize rB l ch=A at *;generalize rB l k=C at *;go_wp2_with fail;refine fA (by kernel_rfl) (by kernel_rfl) ?_;repeat (go_big_quiet_step (fail))
   refine mP (by rfl) (fun W=>iS _ _ _ _ _ _ rfl rfl rfl (bR _ _ W)) (by rintro _ ⟨x,rfl⟩;exact oA (uU _ _ _ _ _)) ?_;simp only [Act.put,List.setIfInBounds_toArray,List.set_cons_succ,List.set_cons_zero];repeat (go_big_quiet_step (fail))
   refine wpQuiet_nil ?_;rintro _ ⟨y,rfl⟩;have X9:Hid (lA y.w' x cx1 tx):=X3.out.later y.h;have M9:Hid (wD y.w' g cap l):=M3.out.later y.h;have P9:Hid (lA y.w' w.heap.size #[.pointer none,.int .i64 0] 309):=P3.out.later y.h;have Q9:Hid (lA y.w' w1.heap.size #[.pointer (some ⟨TP.b,0,none⟩),.int .i64 TP.t] 309):=Q3.out.later y.h;have T9:Hid _:=T3.out.trans' (dA.of y.h);clear d0 d1 d2 d3 d4 hnel X3 M3 P3 Q3 T3;generalize y.w'=W2 at *;clear y;by_cases hAC:A.t<C.t
   ·have hd:decide (A.t<C.t)=true:=by simpa using hAC
    rw [hd];have HV9:Hid (PL=jJ (fE l k ch) ch):=by show _=_;rw [HV2.out];exact HGO.out (by rw [HL.out];exact hcl2) hAC
    have hkc:k<ch:=by omega
    clear HGO HEN HV2 hAC hd h2;go_wp2_with fail;refine (HSW1.out _ X9.out M9.out).mono ?_;rintro e w4 ⟨rfl,hM4,hb4⟩;have M4:=iA hM4;have X4:Hid (lA w4 x cx1 tx):=X9.out.but hb4 hne.symm;have P4:Hid (lA w4 w.heap.size #[.pointer none,.int .i64 0] 309):=P9.out.but hb4 (by omega);have Q4:Hid (lA w4 w1.heap.size #[.pointer (some ⟨TP.b,0,none⟩),.int .i64 TP.t] 309):=Q9.out.but hb4 (by omega);have T4:Hid _:=T9.out.trans' ((dA.but hb4).mono fun i _ e=>Or.inr e);clear hM4 hb4 HSW1;go_wp2;exact ⟨⟨ch,fE l k ch,rfl,by omega,by rw [xB];exact HL.out,X4.out,M4.out,HV9.out,P4.out,Q4.out,T4.out⟩,by simp [intOf];omega⟩
   ·have hd:decide (A.t<C.t)=false:=by simpa using hAC
    rw [hd];have HV9:Hid (PL=l):=by show _=_;rw [HV2.out];exact HEN.out (fun h=>hAC h.2)
    clear HGO HEN HV2 hAC hd h2 HSW1;have z0:W2.cell? ⟨w.heap.size,0,none⟩=some (.pointer none):=P9.out.cell 0;have z1:W2.cell? ⟨w.heap.size,1,none⟩=some (.int .i64 0):=P9.out.cell 1;have fz0:=P9.out.free 0;have fz1:=P9.out.free 1;have q0:W2.cell? ⟨w1.heap.size,0,none⟩=some (.pointer (some ⟨TP.b,0,none⟩)):=Q9.out.cell 0;have q1:W2.cell? ⟨w1.heap.size,1,none⟩=some (.int .i64 TP.t):=Q9.out.cell 1;have hwl:=aA P9.out;go_wp2;have HTE9:dA (·=w.heap.size) W2 ((W2.setCell ⟨w.heap.size,0,none⟩ (.pointer (some ⟨TP.b,0,none⟩))).setCell ⟨w.heap.size,1,none⟩ (.int .i64 TP.t)):=((dA.refl (·=w.heap.size) W2).setCell (Or.inl rfl) 0 _).setCell (Or.inl rfl) 1 _;refine bodyPost_ret (v:=.agg #[.pointer (some ⟨TP.b,0,none⟩),.int .i64 TP.t]) (by simp [results,Tryz.results223,go_sem,z0,z1]) rfl ⟨rfl,HTE9.blk X9.out (by omega),?_,T9.out.trans (HTE9.mono fun i _ e=>Or.inr (by omega))⟩;rw [HV9.out];exact (show ∀{a b:World}{l:List rF},wD a g cap l→dA (·=w.heap.size) a b→wD b g cap l from fun h ht=>by obtain ⟨cur,h1,h2⟩:=h;exact ⟨cur,ht.blk h1 (by omega),h2⟩) M9.out HTE9
end Go.Proofs.YtcneojllbkacoaaGreatDoor
