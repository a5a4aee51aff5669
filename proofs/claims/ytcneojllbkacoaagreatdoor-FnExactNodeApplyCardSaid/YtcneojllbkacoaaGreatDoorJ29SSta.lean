import Derived.Test.YtcneojllbkacoaaGreatDoorJ26KeysM
set_option maxRecDepth 100000
set_option maxHeartbeats 8000000
namespace Go.Proofs.YtcneojllbkacoaaGreatDoor
open Go.RowKit
def aLm (ps:List gA):Prop:=∀i (h:i<ps.length),ps[i].s.size≤1000000000
def aPm (ts:List cA):Prop:=∀i (h:i<ts.length),ts[i].name.size≤maxLen∧aLm ts[i].mets∧aLm ts[i].sers∧ts[i].mets.length≤1000000000∧ts[i].sers.length≤1000000000
structure PS (w W:World) (c:eC) (now:Int) (a:Option Addr) (n cap:Nat):Prop where
 C:lA W w.heap.size #[.int .i64 c.w,.int .i64 c.tl,.int .i64 c.ml,.int .i64 c.sh,.int .i64 c.ha,.int .i64 c.sg] 48
 S:lA W (w.heap.size+1) #[.int .i64 now,.slice a n cap] 43
 B:Below w.heap.size w W
theorem PS.later {w W W':World}{c:eC}{now:Int}{a:Option Addr}{n cap:Nat} (h:PS w W c now a n cap) (hb:Below W.heap.size W W'):PS w W' c now a n cap:=⟨h.C.later hb,h.S.later hb,rA h.B hb⟩
theorem aJ (c:eC) (now:Int) (a:Option Addr) (cap:Nat) (ts:List cA) (w:World) (hf:pB w a ts) (hb:aPm ts) (hlen:ts.length≤1000000000):
 Calls Tryz.prog 50 #[wG c,.agg #[.int .i64 now,.slice a ts.length cap]] w fun e w'=>e=.returned (.bool (vB c now ts))∧Below w.heap.size w w':=by
 have HC:=iA (fun W=>BO c W);have HSB:Hid (vB c now ts=(jH c&&mA now 0 1000000000000&&decide (ts.length≤10000) &&iK c.w now ts)):=rfl;have HF:=iA hf;have HB:=iA hb;clear hf hb;unfold wG at *;have hcs:(jH c=false∨jH c=true∧(mA now 0 1000000000000=false∨mA now 0 1000000000000=true∧(10000:Int)<ts.length))∧vB c now ts=false∨jH c=true∧mA now 0 1000000000000=true∧¬(10000:Int)<ts.length∧vB c now ts=iK c.w now ts:=by
  rw [HSB.out];cases jH c<;>cases mA now 0 1000000000000<;>simp
  by_cases h:(10000:Int)<ts.length
  ·exact Or.inl ⟨h,fun h'=>by omega⟩
  ·exact Or.inr ⟨by omega,fun _=>by omega⟩
 clear HSB;have HP:=fun {W:World} (hb:Below _ (World.alloc (World.alloc w (.cells #[.int .i64 c.w,.int .i64 c.tl,.int .i64 c.ml,.int .i64 c.sh,.int .i64 c.ha,.int .i64 c.sg] 48)) (.cells #[.int .i64 now,.slice a ts.length cap] 43)) W)=>iA (show PS w W c now a ts.length cap from ⟨((lA.new _ _ _).alloc _).later hb,by have:=(lA.new (w.alloc (.cells #[.int .i64 c.w,.int .i64 c.tl,.int .i64 c.ml,.int .i64 c.sh,.int .i64 c.ha,.int .i64 c.sg] 48)) #[.int .i64 now,.slice a ts.length cap] 43).later hb;simpa using this,rA (rA (bA _ _) (bA _ _)) hb⟩);rcases hcs with ⟨g0 | ⟨g0,g1 | ⟨g1,g2⟩⟩,E⟩ | ⟨g0,g1,g2,E⟩
 rotate_left 3;rotate_left 1;iterate 3
  ·have E:=iA E
   rw [g0] at HC
   go_enter Tryz.func50,Tryz.ntmps50
   go_wp2_with (first
    | (go_at_call 19;refine (HC.out _).mono ?_;rintro e w1 ⟨rfl,hb1⟩;have P1:=HP hb1;clear hb1 HP;obtain ⟨s0,s1⟩:=P1.out.S.c2)
    | (go_at_call 22;refine (gC (by assumption) _).mono ?_;rintro e w' ⟨rfl,rfl⟩))
   go_ret
   exact ⟨jA (by rw [E.out]),P1.out.B⟩
 have HSB2:=iA E;obtain ⟨hn0,hn1⟩:=yH g1;rw [g0] at HC;clear E;go_enter Tryz.func50,Tryz.ntmps50;go_wp2_with (first
  | (go_at_call 19;refine (HC.out _).mono ?_;rintro e w1 ⟨rfl,hb1⟩;have P1:=HP hb1;clear hb1 HP;obtain ⟨s0,s1⟩:=P1.out.S.c2)
  | (go_at_call 22;refine (gC g1 _).mono ?_;rintro e w' ⟨rfl,rfl⟩))
 clear s0 s1;go_loopw [5,6,7,8,9,10,29] (fun _ _ _ _ _ _ i wr=>∃k:Nat,k≤ts.length∧i=.int .i64 k∧xG (gK c.w now ts) k=true∧Below w'.heap.size w' wr) (fun _ _ _ _ _ _ i _=>ts.length - (intOf i).toNat)
 case atStart=>exact ⟨0,Nat.zero_le _,rfl,rfl,Below.refl _ _⟩
 case round=>
  obtain ⟨k,hk,rfl,hok,hbel⟩:=hrel;have HOK:=iA hok;have HBEL:=iA hbel;have PW:=iA (P1.out.later hbel);clear hok hbel P1;by_cases hlt:k<ts.length
  ·obtain ⟨b,o,a1,q1,a2,q2,rfl,hbl,t0,t1,t2,t3,p1,p2⟩:=(HF.out.later PW.out.B).at hlt;obtain ⟨n1,n2,n3,n4,n5⟩:=HB.out k hlt;have HFAIL:Hid (gK c.w now ts k=false→vB c now ts=false):=fun h=>by rw [HSB2.out];exact qK h hlt
   have HAT:Hid (gK c.w now ts k=(pJ ts k&&qM c.w now ts[k])):=jQ hlt;have HPRE:Hid (0<k→∃pn:ByteArray,pJ ts k=nG pn ts[k].name∧wr.cell? ⟨b,o+(k - 1) * 4,none⟩=some (.string pn)):=fun h0=>by
    refine ⟨_,cQ h0 hlt,?_⟩;obtain ⟨b',o',_,_,_,_,e,_,u0,_⟩:=(HF.out.later PW.out.B).at (i:=k - 1) (by omega)
    simp only [Option.some.injEq,Addr.mk.injEq,and_true] at e;rw [e.1,e.2];exact u0
   have HPZ:Hid (k=0→pJ ts k=true):=fun h0=>by subst h0;rfl
   generalize ts[k]=T at *;have HTN:=iA (fun W=>jI T.name W n1);have HID:=iA (fun W=>gV T a1 a2 q1 q2 W);have HTB:Hid (qM c.w now T=(dC T.name&&mA T.limit (-1) 1000000&&oJ T.mets&&zI c.w now T.sers&&!dD T)):=rfl;have hc2:(dC T.name=false∨dC T.name=true∧(mA T.limit (-1) 1000000=false∨mA T.limit (-1) 1000000=true∧dD T=true))∧qM c.w now T=false∨dC T.name=true∧mA T.limit (-1) 1000000=true∧dD T=false∧qM c.w now T=(oJ T.mets&&zI c.w now T.sers):=by
    rw [HTB.out];cases dC T.name<;>cases mA T.limit (-1) 1000000<;>cases dD T<;>simp
   clear HTB;rcases hc2 with ⟨e1 | ⟨e1,e2 | ⟨e2,e3⟩⟩,E⟩ | ⟨e1,e2,e3,E⟩
   rotate_left 3;rotate_left 1;iterate 3
    ·have E:=iA E
     rw [e1] at HTN
     try rw [e3] at HID
     go_wp2_with (first
      | (go_at_call 93;refine (HTN.out _).mono ?_;rintro e w2 ⟨rfl,hw⟩;replace hw:=hw.symm;subst hw)
      | (go_at_call 22;refine (gC (by assumption) _).mono ?_;rintro e w2 ⟨rfl,hw⟩;replace hw:=hw.symm;subst hw)
      | (go_at_call 94;refine (HID.out _).mono ?_;rintro e w3 ⟨rfl,hb3⟩))
     go_ret
     exact ⟨jA (HFAIL.out (by rw [HAT.out,E.out];simp)).symm,by first | exact rA PW.out.B (rA (bA _ _) hb3) | exact rA PW.out.B (bA _ _)⟩
   have HTB:=iA E;rw [e1] at HTN;rw [e3] at HID;clear E;go_upto_region 8 with (first
    | (go_at_call 93;refine (HTN.out _).mono ?_;rintro e w2 ⟨rfl,hw⟩;replace hw:=hw.symm;subst hw)
    | (go_at_call 22;refine (gC e2 _).mono ?_;rintro e w2 ⟨rfl,hw⟩;replace hw:=hw.symm;subst hw)
    | (go_at_call 94;refine (HID.out _).mono ?_;rintro e w3 ⟨rfl,hb3⟩))
   have T3:=iA ((lA.new wr #[.string T.name,.int .i64 T.limit,.slice a1 T.mets.length q1,.slice a2 T.sers.length q2] 95).later hb3);have hbx:=rA (bA _ _) hb3;have P3:=iA (PW.out.later hbx);have B3:=iA (rA HBEL.out hbx);have Q3:=iA (And.intro (p1.later hbx) (p2.later hbx));have HPRE3:Hid (0<k→∃pn:ByteArray,pJ ts k=nG pn T.name∧w3.cell? ⟨b,o+(k - 1) * 4,none⟩=some (.string pn)):=fun h0=>by
    obtain ⟨pn,e1,e2⟩:=HPRE.out h0;exact ⟨pn,e1,(hbx.cell hbl).trans e2⟩
   clear hb3 hbx HPRE p1 p2 t0 t1 t2 t3 PW HBEL HID HTN;generalize wr.heap.size=tb at *;clear wr;go_cut [61] (fun s wx=>s=.bool (!(pJ ts k))∧Below w3.heap.size w3 wx)
   case first=>
    obtain ⟨-,x0⟩:=P3.out.S.c2;obtain ⟨x1,-⟩:=T3.out.c4;have hv:(∃pn,((0:Int)<k∧0<k)∧w3.cell? ⟨b,o+(k - 1) * 4,none⟩=some (.string pn)∧pJ ts k=nG pn T.name)∨decide ((0:Int)<k)=false∧decide (0<k)=false∧pJ ts k=true:=by
     by_cases h0:0<k
     ·obtain ⟨pn,hp,cp⟩:=HPRE3.out h0;exact Or.inl ⟨pn,⟨by omega,h0⟩,cp,hp⟩
     ·exact Or.inr ⟨by simp;omega,by simp;omega,HPZ.out (by omega)⟩
    rcases hv with ⟨pn,⟨h0,h0'⟩,cp,HP⟩ | ⟨hd,hd',HP⟩
    all_goals
     have HP:=iA HP;go_quiet (fail)
     go_wp2_with fail;go_meet;exact ⟨by rw [HP.out];rfl,below_drewN (Below.refl _ _) _⟩
   obtain ⟨rfl,hb4⟩:=hcut;rename World=>w4;have T4:=iA (T3.out.later hb4);have PW:=iA (P3.out.later hb4);have B4:=iA (rA B3.out hb4);have P14:=iA (Q3.out.1.later hb4);have P24:=iA (Q3.out.2.later hb4);clear hb4 T3 P3 B3 Q3 HPRE3 HPZ;cases e4:pJ ts k
   ·rw [e4] at HAT;go_wp2;go_ret;exact ⟨jA (HFAIL.out (by rw [HAT.out];simp)).symm,PW.out.B⟩
   rw [e4] at HAT;obtain ⟨-,-,y2,-⟩:=T4.out.c4;go_wp2;clear y2;go_loopw [7,8,65] (fun _ _ j wr=>∃i:Nat,i≤T.mets.length∧j=.int .i64 i∧xG (qG T.mets) i=true∧Below w4.heap.size w4 wr) (fun _ _ j _=>T.mets.length - (intOf j).toNat)
   case atStart=>exact ⟨0,Nat.zero_le _,rfl,rfl,Below.refl _ _⟩
   case round=>
    obtain ⟨i,hi,rfl,hmo,hb5⟩:=hrel;have HMO:=iA hmo;have HB5:=iA hb5;clear hmo hb5;by_cases hil:i<T.mets.length
    ·obtain ⟨pb,po,rfl,hpl,c0,c1⟩:=(P14.out.later HB5.out).at hil;have HMF:Hid _:=fun h=>HFAIL.out (by rw [HAT.out,HTB.out];have:oJ T.mets=false:=qK h hil;rw [this];simp);have HMA:Hid _:=pS hil;have hsz:=n2 i hil;have HPR:Hid (0<i→∃pn:ByteArray,eI T.mets i=nG pn T.mets[i].s∧wr.cell? ⟨pb,po+(i - 1) * 2,none⟩=some (.string pn)):=fun h0=>by
      refine ⟨_,eO h0 hil,?_⟩;obtain ⟨b',o',e,_,u0,_⟩:=(P14.out.later HB5.out).at (i:=i - 1) (by omega)
      simp only [Option.some.injEq,Addr.mk.injEq,and_true] at e;rw [e.1,e.2];exact u0
     have HPZ:Hid (i=0→eI T.mets i=true):=fun h0=>by subst h0;rfl
     generalize T.mets[i]=P at *;have HMN:=iA (fun W=>yK P.s W hsz);have HAL:=iA (bA wr (.cells #[.string P.s,.int .i64 P.n] 149));have MB:=iA (lA.new wr #[.string P.s,.int .i64 P.n] 149);go_upto_region 13 with fail;generalize wr.alloc (.cells #[.string P.s,.int .i64 P.n] 149)=W at *;have HB6:=iA (rA HB5.out HAL.out);have TB:=iA (T4.out.later HB6.out);have PB:=iA (PW.out.later HB6.out);replace HPR:Hid (0<i→∃pn:ByteArray,eI T.mets i=nG pn P.s∧W.cell? ⟨pb,po+(i - 1) * 2,none⟩=some (.string pn)):=fun h0=>by
      obtain ⟨pn,e1,e2⟩:=HPR.out h0;exact ⟨pn,e1,(HAL.out.cell hpl).trans e2⟩
     generalize wr.heap.size=mb at *;clear c0 c1 hpl HB5 HAL wr;go_cut [95] (fun s wx=>s=.bool (!(qG T.mets i))∧Below W.heap.size W wx)
     case first=>
      have d:=fun x:pA W=>(⟨(MB.out.later x.h).c2,(TB.out.later x.h).c4,(PB.out.later x.h).S.c2,(PB.out.later x.h).C.c6⟩:_∧_∧_∧_)
      simp only [forall_and] at d;obtain ⟨⟨d0,d1⟩,⟨-,-,d2,d3⟩,⟨d4,-⟩,⟨d5,-⟩⟩:=d;have hnel:=pA.there W;have hv:oD P.s=false∧qG T.mets i=false∨oD P.s=true∧(mA P.n 0 1000000=false∧qG T.mets i=false∨mA P.n 0 1000000=true∧((∃pn,((0:Int)<i∧0<i)∧W.cell? ⟨pb,po+(i - 1) * 2,none⟩=some (.string pn)∧qG T.mets i=nG pn P.s)∨decide ((0:Int)<i)=false∧decide (0<i)=false∧qG T.mets i=true)):=by
       rw [HMA.out];cases oD P.s
       ·exact Or.inl ⟨rfl,by simp⟩
       refine Or.inr ⟨rfl,?_⟩;cases mA P.n 0 1000000
       ·exact Or.inl ⟨rfl,by simp⟩
       refine Or.inr ⟨rfl,?_⟩;by_cases h0:0<i
       ·obtain ⟨pn,hp,cp⟩:=HPR.out h0;exact Or.inl ⟨pn,⟨by omega,h0⟩,cp,by rw [hp];simp⟩
       ·exact Or.inr ⟨by simp;omega,by simp;omega,by rw [HPZ.out (by omega)];rfl⟩
      rcases hv with ⟨f1,HV⟩ | ⟨f1,⟨f2,HV⟩ | ⟨f2,⟨pn,⟨h0,h0'⟩,cp,HV⟩ | ⟨hd,hd',HV⟩⟩⟩
      all_goals
       have HV:=iA HV;rw [f1] at HMN;try have d6:=pA.cells cp
       try clear cp
       refine fA (by kernel_rfl) (by kernel_rfl) ?_;repeat (go_big_quiet_step (first | (go_at_call 95;exact oA (HMN.out _)) | (go_at_call 22;exact uA (gC (by assumption) _))))
       refine wpQuiet_nil ?_;rintro _ ⟨x,rfl⟩;go_wp2_with fail;go_meet;exact ⟨by rw [HV.out];rfl,x.h⟩
     obtain ⟨rfl,hb7⟩:=hcut;rename World=>w7;have HB7:=iA (rA HB6.out hb7);clear hb7 HB6 MB TB PB HPR HMN;cases f4:qG T.mets i
     ·have HF4:=iA f4;go_wp2;go_ret;exact ⟨jA (HMF.out HF4.out).symm,rA PW.out.B HB7.out⟩
     ·have HF4:Hid (xG (qG T.mets) (i+1)=true):=by show _=_;rw [xH,HMO.out,f4];rfl
      go_wp2;exact ⟨⟨i+1,by omega,by go_num,HF4.out,HB7.out⟩,by simp [intOf];omega⟩
    ·have ei:i=T.mets.length:=by omega
     have HMB:Hid (oJ T.mets=true):=by have:=HMO.out;rw [ei] at this;exact this
     clear ei;replace T4:=iA (T4.out.later HB5.out);replace PW:=iA (PW.out.later HB5.out);replace B4:=iA (rA B4.out HB5.out);have P25:=iA (P24.out.later HB5.out);obtain ⟨-,-,-,y3⟩:=T4.out.c4;clear P14 P24 HB5 HMO;go_wp2;clear y3;generalize hwo:wr=wo at *;clear hwo;go_loopw [9,10,100] (fun _ _ j wr=>∃i:Nat,i≤T.sers.length∧j=.int .i64 i∧xG (sF c.w now T.sers) i=true∧Below wo.heap.size wo wr) (fun _ _ j _=>T.sers.length - (intOf j).toNat)
     case atStart=>exact ⟨0,Nat.zero_le _,rfl,rfl,Below.refl _ _⟩
     case round=>
      obtain ⟨i,hi,rfl,hmo,hb5⟩:=hrel;have HMO:=iA hmo;have HB5:=iA hb5;clear hmo hb5;by_cases hil:i<T.sers.length
      ·obtain ⟨pb,po,rfl,hpl,c0,c1⟩:=(P25.out.later HB5.out).at hil;have HMF:Hid _:=fun h=>HFAIL.out (by rw [HAT.out,HTB.out];have:zI c.w now T.sers=false:=qK h hil;rw [this];simp);have HMA:Hid (sF c.w now T.sers i=(eI T.sers i&&yF T.sers[i].s&&mA T.sers[i].n 0 now&&decide (now - T.sers[i].n<c.w))):=fQ hil;have hsz:=n3 i hil;have HPR:Hid (0<i→∃pn:ByteArray,eI T.sers i=nG pn T.sers[i].s∧wr.cell? ⟨pb,po+(i - 1) * 2,none⟩=some (.string pn)):=fun h0=>by
        refine ⟨_,eO h0 hil,?_⟩;obtain ⟨b',o',e,_,u0,_⟩:=(P25.out.later HB5.out).at (i:=i - 1) (by omega)
        simp only [Option.some.injEq,Addr.mk.injEq,and_true] at e;rw [e.1,e.2];exact u0
       have HPZ:Hid (i=0→eI T.sers i=true):=fun h0=>by subst h0;rfl
       generalize T.sers[i]=P at *;have HMN:=iA (fun W=>bZ P.s W hsz);have HAL:=iA (bA wr (.cells #[.string P.s,.int .i64 P.n] 151));have MB:=iA (lA.new wr #[.string P.s,.int .i64 P.n] 151);go_upto_region 19 with fail;generalize wr.alloc (.cells #[.string P.s,.int .i64 P.n] 151)=W at *;have HB6:=iA (rA HB5.out HAL.out);have TB:=iA (T4.out.later HB6.out);have PB:=iA (PW.out.later HB6.out);replace HPR:Hid (0<i→∃pn:ByteArray,eI T.sers i=nG pn P.s∧W.cell? ⟨pb,po+(i - 1) * 2,none⟩=some (.string pn)):=fun h0=>by
        obtain ⟨pn,e1,e2⟩:=HPR.out h0;exact ⟨pn,e1,(HAL.out.cell hpl).trans e2⟩
       generalize wr.heap.size=mb at *;clear c0 c1 hpl HB5 HAL wr;go_cut [142] (fun s wx=>s=.bool (!(sF c.w now T.sers i))∧Below W.heap.size W wx)
       case first=>
        have d:=fun x:pA W=>(⟨(MB.out.later x.h).c2,(TB.out.later x.h).c4,(PB.out.later x.h).S.c2,(PB.out.later x.h).C.c6⟩:_∧_∧_∧_)
        simp only [forall_and] at d;obtain ⟨⟨d0,d1⟩,⟨-,-,d2,d3⟩,⟨d4,-⟩,⟨d5,-⟩⟩:=d;have hnel:=pA.there W;have hv:yF P.s=false∧sF c.w now T.sers i=false∨yF P.s=true∧(mA P.n 0 now=false∧sF c.w now T.sers i=false∨mA P.n 0 now=true∧(0≤P.n∧P.n≤now)∧(c.w≤now - P.n∧sF c.w now T.sers i=false∨decide (c.w≤now - P.n)=false∧((∃pn,((0:Int)<i∧0<i)∧W.cell? ⟨pb,po+(i - 1) * 2,none⟩=some (.string pn)∧sF c.w now T.sers i=nG pn P.s)∨decide ((0:Int)<i)=false∧decide (0<i)=false∧sF c.w now T.sers i=true))):=by
         rw [HMA.out];cases yF P.s
         ·exact Or.inl ⟨rfl,by simp⟩
         refine Or.inr ⟨rfl,?_⟩;cases hb:mA P.n 0 now
         ·exact Or.inl ⟨rfl,by simp⟩
         refine Or.inr ⟨rfl,yH hb,?_⟩;by_cases f3:c.w≤now - P.n
         ·exact Or.inl ⟨f3,by rw [decide_eq_false (show ¬now - P.n<c.w by omega)];simp⟩
         refine Or.inr ⟨by simpa using f3,?_⟩;rw [decide_eq_true (show now - P.n<c.w by omega)];by_cases h0:0<i
         ·obtain ⟨pn,hp,cp⟩:=HPR.out h0;exact Or.inl ⟨pn,⟨by omega,h0⟩,cp,by rw [hp];simp⟩
         ·exact Or.inr ⟨by simp;omega,by simp;omega,by rw [HPZ.out (by omega)];rfl⟩
        rcases hv with ⟨f1,HV⟩ | ⟨f1,⟨f2,HV⟩ | ⟨f2,⟨r0,r1⟩,⟨f3,HV⟩ | ⟨f3,⟨pn,⟨h0,h0'⟩,cp,HV⟩ | ⟨hd,hd',HV⟩⟩⟩⟩
        all_goals
         have HV:=iA HV;rw [f1] at HMN;try have d6:=pA.cells cp
         try clear cp
         refine fA (by kernel_rfl) (by kernel_rfl) ?_;repeat (go_big_quiet_step (first | (go_at_call 96;exact oA (HMN.out _)) | (go_at_call 22;exact uA (gC (by assumption) _))))
         refine wpQuiet_nil ?_;rintro _ ⟨x,rfl⟩;go_wp2_with fail;go_meet;exact ⟨by rw [HV.out];rfl,x.h⟩
       obtain ⟨rfl,hb7⟩:=hcut;rename World=>w7;have HB7:=iA (rA HB6.out hb7);clear hb7 HB6 MB TB PB HPR HMN;cases f4:sF c.w now T.sers i
       ·have HF4:=iA f4;go_wp2;go_ret;exact ⟨jA (HMF.out HF4.out).symm,rA PW.out.B HB7.out⟩
       ·have HF4:Hid (xG (sF c.w now T.sers) (i+1)=true):=by show _=_;rw [xH,HMO.out,f4];rfl
        go_wp2;exact ⟨⟨i+1,by omega,by go_num,HF4.out,HB7.out⟩,by simp [intOf];omega⟩
      ·have ei:i=T.sers.length:=by omega
       have HSS:Hid (zI c.w now T.sers=true):=by have:=HMO.out;rw [ei] at this;exact this
       have HNX:Hid (xG (gK c.w now ts) (k+1)=true):=by
        show _=_;rw [xH,HOK.out,HAT.out,HTB.out,HMB.out,HSS.out];rfl
       clear ei;go_wp2;exact ⟨⟨k+1,by omega,by go_num,HNX.out,rA B4.out HB5.out⟩,by simp [intOf];omega⟩
  ·have ek:k=ts.length:=by omega
   have HEND:Hid (vB c now ts=true):=by show _=_;rw [HSB2.out];have:=HOK.out;rw [ek] at this;exact this
   go_wp2;go_ret;exact ⟨jA HEND.out.symm,PW.out.B⟩
end Go.Proofs.YtcneojllbkacoaaGreatDoor
