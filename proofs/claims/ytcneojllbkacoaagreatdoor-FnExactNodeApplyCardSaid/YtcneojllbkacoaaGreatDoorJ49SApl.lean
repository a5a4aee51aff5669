import Derived.Test.YtcneojllbkacoaaGreatDoorJ48SSlm
import Derived.Test.YtcneojllbkacoaaGreatDoorJ42STik
import Derived.Test.YtcneojllbkacoaaGreatDoorJ44SAdm
set_option maxRecDepth 100000
set_option maxHeartbeats 8000000
namespace Go.Proofs.YtcneojllbkacoaaGreatDoor
open Go.RowKit Go.Maps
theorem aCb {w:World}{N:Nat}{x y p q:Value}{t:TypeId} (h:lA w N #[x,y] t):lA ((w.setCell ⟨N,0,none⟩ p).setCell ⟨N,1,none⟩ q) N #[p,q] t:=by
 have:=(h.set 0 p).set 1 q;simpa using this
def ApR (w:World) (c:eC) (now:Int) (a:Option Addr) (n cap N:Nat) (nv:Value) (sv:Value) (X:Nat) (SV:Int×List cA×Bool) (wx:World):Prop:=
 ∃a5 c5,qT w wx c now a n cap∧lA wx N #[nv,sv] 43∧(SV.2.2=true→lA wx X #[.int .i64 SV.1,.slice a5 SV.2.1.length c5] 43∧eB wx (X+1) a5 SV.2.1)
section
variable {w w5 W:World}{c:eC}{now:Int}{a a5:Option Addr}{n cap N X B c5:Nat}{nv sv:Value}{SV:Int×List cA×Bool}{n5:Int}{t5:List cA}{b5:Bool}
theorem aBv (P:qT w w5 c now a n cap) (NB:lA w5 N #[nv,sv] 43) (XB:lA w5 X #[.int .i64 0,.slice none 0 0] 43) (O:eB w5 B a5 t5) (hX:w.heap.size+1+1<X) (hN:N≠X) (hB:X<B):ApR w c now a n cap N nv sv X (n5,t5,b5) ((w5.setCell ⟨X,0,none⟩ (.int .i64 n5)).setCell ⟨X,1,none⟩ (.slice a5 t5.length c5)):=by
 have hT:dA (·=X) w5 ((w5.setCell ⟨X,0,none⟩ (.int .i64 n5)).setCell ⟨X,1,none⟩ (.slice a5 t5.length c5)):=((dA.refl (·=X) w5).setCell (Or.inl rfl) 0 _).setCell (Or.inl rfl) 1 _;exact ⟨a5,c5,P.turn hT hX,hT.blk NB hN,fun _=>⟨aCb XB,(eB.turned O hT (fun g h1 h2 e=>by omega)).mono (by omega)⟩⟩
theorem ApR.alloc (h:ApR w c now a n cap N nv sv X SV W) (o:Obj):ApR w c now a n cap N nv sv X SV (W.alloc o):=by
 obtain ⟨a5,c5,h1,h2,h3⟩:=h;exact ⟨a5,c5,h1.later (bA _ _),h2.alloc _,fun e=>⟨(h3 e).1.alloc _,(h3 e).2.later (bA _ _)⟩⟩
end
theorem JI (c:eC) (now:Int) (a:Option Addr) (cap:Nat) (ts:List cA) (ar:Option Addr) (capr:Nat) (rs:List pC) (w:World) (hf:pB w a ts) (hr:oE w ar rs) (hbk:ts.length+nA ts+rs.length+uB rs≤1048576):
 Calls Tryz.prog 21 #[wG c,.agg #[.int .i64 now,.slice a ts.length cap],.slice ar rs.length capr] w fun e w'=>qR (rE c now ts rs) w e w':=by
 have hbt:ts.length+nA ts≤1100000:=by omega
 obtain ⟨f1,f2,f3,f4⟩:=kS hbt;have HST:=iA (fun W (hW:Below w.heap.size w W)=>aJ c now a cap ts W (hf.later hW) f2 (by omega));have HSM0:=iA (fun (h:vB c now ts=true) W (hW:Below w.heap.size w W)=>aO c now a cap ts W (hf.later hW) h hbt);have HV0:Hid (rE c now ts rs=if vB c now ts=false then (0,[],false) else if 500<rs.length then (now,ts,false) else if (eF c now ts rs).2.2=true then eF c now ts rs else (now,ts,false)):=rfl;have HF:=iA hr;have HBK:=iA hbk;have P:=iA (qT.new (w:=w) (c:=c) (now:=now) (a:=a) (n:=ts.length) (cap:=cap));clear hf hr f1 f2 f3 f4 hbk hbt;unfold qR;unfold wG at *;generalize rE c now ts rs=V at *;go_enter Tryz.func21,Tryz.ntmps21;go_wp2_with fail;refine (HST.out _ P.out.B).mono ?_;rintro e w1 ⟨rfl,hb⟩;replace P:=iA (P.out.later hb);clear hb HST;obtain ⟨x0,x1,x2,x3,x4,x5,y0,y1,z0,z1,g0,g1,hz⟩:=P.out.cells;cases hst:vB c now ts with
 | false=>
   have E:Hid (V=(0,[],false)):=by show _=_;rw [HV0.out,if_pos hst]
   go_wp2;refine bodyPost_ret (v:=?_) (by simp [results,Tryz.results21,go_sem,z0,z1];rfl) rfl ?_;rw [E.out];refine ⟨none,0,rfl,Or.inl rfl,?_⟩;first
    | exact (P.out.B.setCell (by show w.heap.size≤w.heap.size+1+1;omega) _).setCell (by show w.heap.size≤w.heap.size+1+1;omega) _
    | exact P.out.B
 | true=>
   have HSM:=iA (HSM0.out hst);have HV1:Hid (V=if 500<rs.length then (now,ts,false) else if (eF c now ts rs).2.2=true then eF c now ts rs else (now,ts,false)):=by show _=_;rw [HV0.out,if_neg (by rw [hst];simp)]
   have HS0:=iA hst;clear HV0 HSM0 z0 z1 g0 g1;go_wp2_with fail;refine (HSM.out _ P.out.B).mono ?_;rintro e w2 ⟨a2,c2,rfl,ho2,hb⟩;clear x0 x1 x2 x3 x4 x5 y0 y1;have O4:=iA ((ho2.mono (B':=w.heap.size+1+1+1) (by omega)).later (bA w2 (.cells #[.int .i64 now,.slice a2 ts.length c2] 43)));have P4:=iA ((P.out.later hb).later (bA w2 (.cells #[.int .i64 now,.slice a2 ts.length c2] 43)));have N4:=iA (lA.new w2 #[.int .i64 now,.slice a2 ts.length c2] 43);have hNp:=(P.out.later hb).lt;obtain ⟨n0,n1⟩:=N4.out.c2;clear hb ho2 P;by_cases h5:500<rs.length
   ·have E:Hid (V=(now,ts,false)):=by show _=_;rw [HV1.out,if_pos h5]
    go_upto_region 5 with fail;generalize w2.alloc (.cells #[.int .i64 now,.slice a2 ts.length c2] 43)=w4 at *;obtain ⟨-,-,-,-,-,-,-,-,z0,z1,g0,g1,hz4⟩:=P4.out.cells;go_wp2;refine bodyPost_ret (v:=?_) (by simp [results,Tryz.results21,go_sem,z0,z1];rfl) rfl ?_;rw [E.out];first
     | exact ⟨a2,⟨c2,rfl⟩,P4.out.done O4.out (by omega)⟩
     | exact ⟨a2,c2,rfl,P4.out.done O4.out (by omega)⟩
   ·have HVF:Hid ((eF c now ts rs).2.2=false→V=(now,ts,false)):=fun h6=>by rw [HV1.out,if_neg h5,if_neg (by rw [h6];simp)]
    have HVT:Hid ((eF c now ts rs).2.2=true→V=eF c now ts rs):=fun h6=>by rw [HV1.out,if_neg h5,if_pos h6]
    go_wp2;generalize w2.alloc (.cells #[.int .i64 now,.slice a2 ts.length c2] 43)=w4 at *;generalize w2.heap.size=N at *;clear n0 n1 HV1;go_loopw [29] (fun i wr=>∃(k:Nat) (nk:Int) (tk:List cA) (an:Option Addr) (cn:Nat),k≤rs.length∧i=.int .i64 k∧Hid (qT w wr c now a ts.length cap)∧Hid (lA wr N #[.int .i64 nk,.slice an tk.length cn] 43)∧Hid (eB wr (w.heap.size+1+1+1) an tk)∧Hid (vB c nk tk=true)∧Hid (tk.length+nA tk+2 * (rs.length - k)+uB (rs.drop k)≤1100000)∧Hid (eF c nk tk (rs.drop k)=eF c now ts rs)) (fun i _=>rs.length - (intOf i).toNat)
    case atStart=>exact ⟨0,now,ts,a2,c2,Nat.zero_le _,rfl,P4.out,N4.out,O4.out,HS0.out,iA (by have:=HBK.out;simp only [Nat.sub_zero,List.drop_zero];omega),rfl⟩
    case round=>
     obtain ⟨k,nk,tk,an,cn,hk,rfl,P,NB,OB,HS,HK,HR⟩:=hrel;clear P4 N4 O4 HS0;by_cases hlt:k<rs.length
     ·obtain ⟨b,o,har,hbw,q0,q1,q2,q3⟩:=(HF.out.later P.out.B).at hlt;subst har;have hkb:=HK.out;have hdr:=uX rs hlt;have hstb:=uV HS.out rs[k];have HVQ0:Hid _:=fun h=>HVF.out (by rw [←HR.out,MH hlt h]);have HOK0:Hid ((gD c nk tk rs[k]).2.2=true→eF c (gD c nk tk rs[k]).1 (gD c nk tk rs[k]).2.1 (rs.drop (k+1))=eF c now ts rs∧vB c (gD c nk tk rs[k]).1 (gD c nk tk rs[k]).2.1=true):=fun h=>⟨(MG hlt h).symm.trans HR.out,GS HS.out h⟩
      have HBN:Hid ((gD c nk tk rs[k]).2.1.length+nA (gD c nk tk rs[k]).2.1+2 * (rs.length - (k+1))+uB (rs.drop (k+1))≤1100000):=by show _≤_;omega
      have HSV:Hid (gD c nk tk rs[k]=if rs[k].kind=1 then (nk,(tJ c nk tk rs[k].tenant rs[k].text).1,decide ((tJ c nk tk rs[k].tenant rs[k].text).2=1) ||decide ((tJ c nk tk rs[k].tenant rs[k].text).2=2)) else if rs[k].kind=2 then tH c.w nk tk rs[k].num else if rs[k].kind=3 then (nk,(jO tk rs[k].tenant rs[k].text rs[k].num).1,(jO tk rs[k].tenant rs[k].text rs[k].num).2) else (nk,tk,false)):=rfl;have HAD:Hid (∀W,Below wr.heap.size wr W→Calls Tryz.prog 52 #[.agg #[.int .i64 c.w,.int .i64 c.tl,.int .i64 c.ml,.int .i64 c.sh,.int .i64 c.ha,.int .i64 c.sg],.agg #[.int .i64 nk,.slice an tk.length cn],.string rs[k].tenant,.string rs[k].text] W fun e w'=>∃a cap,e=.returned (.tuple #[.agg #[.int .i64 nk,.slice a (tJ c nk tk rs[k].tenant rs[k].text).1.length cap],.int .i64 ((tJ c nk tk rs[k].tenant rs[k].text).2:Nat)])∧eB w' W.heap.size a (tJ c nk tk rs[k].tenant rs[k].text).1∧Below W.heap.size W w'):=fun W hW=>by
       have:=JG c nk an cn tk rs[k].tenant rs[k].text W (OB.out.tens.later hW) (by omega) (by omega) (by omega) HS.out;rw [aLo HS.out] at this;exact this
      have HTK:Hid (∀W,Below wr.heap.size wr W→Calls Tryz.prog 53 #[.agg #[.int .i64 c.w,.int .i64 c.tl,.int .i64 c.ml,.int .i64 c.sh,.int .i64 c.ha,.int .i64 c.sg],.agg #[.int .i64 nk,.slice an tk.length cn],.int .i64 rs[k].num] W fun e w'=>∃a cap,e=.returned (.tuple #[.agg #[.int .i64 (tH c.w nk tk rs[k].num).1,.slice a (tH c.w nk tk rs[k].num).2.1.length cap],.bool (tH c.w nk tk rs[k].num).2.2])∧eB w' W.heap.size a (tH c.w nk tk rs[k].num).2.1∧Below W.heap.size W w'):=fun W hW=>by
       have:=QH c nk an cn tk rs[k].num W (OB.out.tens.later hW) (by omega) HS.out;rw [aLb HS.out] at this;exact this
      have HSE:Hid (∀W,Below wr.heap.size wr W→Calls Tryz.prog 54 #[.agg #[.int .i64 c.w,.int .i64 c.tl,.int .i64 c.ml,.int .i64 c.sh,.int .i64 c.ha,.int .i64 c.sg],.agg #[.int .i64 nk,.slice an tk.length cn],.string rs[k].tenant,.string rs[k].text,.int .i64 rs[k].num] W fun e w'=>∃a cap,e=.returned (.tuple #[.agg #[.int .i64 nk,.slice a (jO tk rs[k].tenant rs[k].text rs[k].num).1.length cap],.bool (jO tk rs[k].tenant rs[k].text rs[k].num).2])∧eB w' W.heap.size a (jO tk rs[k].tenant rs[k].text rs[k].num).1∧Below W.heap.size W w'):=fun W hW=>by
       have:=pZ c nk an cn tk rs[k].tenant rs[k].text rs[k].num W (OB.out.tens.later hW) (by omega) (by omega) (by omega) HS.out;rw [aNe HS.out] at this;exact this
      clear hkb hdr hstb HS HK HR;have hNr:=aA NB.out;have hRr:=P.out.lt;have HAL:Hid (Below wr.heap.size wr ((wr.alloc (.cells #[.int .i64 rs[k].kind,.string rs[k].tenant,.string rs[k].text,.int .i64 rs[k].num] 77)).alloc (.cells #[.int .i64 0,.slice none 0 0] 43))):=rA (bA _ _) (bA _ _);have XB:Hid _:=iA (by have:=lA.new (wr.alloc (.cells #[.int .i64 rs[k].kind,.string rs[k].tenant,.string rs[k].text,.int .i64 rs[k].num] 77)) #[.int .i64 0,.slice none 0 0] 43;simpa using this);have UB:=iA ((lA.new wr #[.int .i64 rs[k].kind,.string rs[k].tenant,.string rs[k].text,.int .i64 rs[k].num] 77).alloc (.cells #[.int .i64 0,.slice none 0 0] 43));generalize gD c nk tk rs[k]=SV at *;go_upto_region 11 with fail;clear q0 q1 q2 q3;generalize ((wr.alloc (.cells #[.int .i64 rs[k].kind,.string rs[k].tenant,.string rs[k].text,.int .i64 rs[k].num] 77)).alloc (.cells #[.int .i64 0,.slice none 0 0] 43))=wb at *;replace P:=iA (P.out.later HAL.out);replace NB:=iA (NB.out.later HAL.out);have hwb:=aA XB.out;clear OB;obtain ⟨x0,x1,x2,x3,x4,x5,y0,y1,-,-,-,-,-⟩:=P.out.cells;obtain ⟨n0,n1⟩:=NB.out.c2;obtain ⟨q0,q1,q2,q3⟩:=UB.out.c4;generalize rs[k].kind=KD at *;generalize rs[k].tenant=TE at *;generalize rs[k].text=TX at *;generalize rs[k].num=NU at *;go_upto_block 2 with fail;go_cut [11,14] (fun ok _ wx=>ok=.bool SV.2.2∧ApR w c now a ts.length cap N (.int .i64 nk) (.slice an tk.length cn) (wr.heap.size+1) SV wx)
      case first=>
       generalize tJ c nk tk TE TX=R1 at *;generalize tH c.w nk tk NU=R2 at *;generalize jO tk TE TX NU=R3 at *;obtain ⟨t5,v5⟩:=R1;obtain ⟨n6,t6,b6⟩:=R2;obtain ⟨t7,b7⟩:=R3;have hks:KD=1∧(((v5:Int)==1)=true∧SV=(nk,t5,true)∨((v5:Int)==1)=false∧(((v5:Int)==2)=true∧SV=(nk,t5,true)∨((v5:Int)==2)=false∧SV=(nk,t5,false)))∨(KD==1)=false∧(KD=2∧SV=(n6,t6,b6)∨(KD==2)=false∧(KD=3∧SV=(nk,t7,b7)∨(KD==3)=false∧SV=(nk,tk,false))):=by
        rw [HSV.out];by_cases k1:KD=1
        ·refine Or.inl ⟨k1,?_⟩;rw [if_pos k1];by_cases v1:v5=1
         ·exact Or.inl ⟨by simp [v1],by simp [v1]⟩
         ·refine Or.inr ⟨by simp;omega,?_⟩;by_cases v2:v5=2
          ·exact Or.inl ⟨by simp [v2],by simp [v2]⟩
          ·exact Or.inr ⟨by simp;omega,by simp [v1,v2]⟩
        ·refine Or.inr ⟨by simpa using k1,?_⟩;rw [if_neg k1];by_cases k2:KD=2
         ·exact Or.inl ⟨k2,by rw [if_pos k2]⟩
         ·refine Or.inr ⟨by simpa using k2,?_⟩;rw [if_neg k2];by_cases k3:KD=3
          ·exact Or.inl ⟨k3,by rw [if_pos k3]⟩
          ·exact Or.inr ⟨by simpa using k3,by rw [if_neg k3]⟩
       clear HSV;rcases hks with ⟨rfl,⟨h1,rfl⟩ | ⟨h1,⟨h2,rfl⟩ | ⟨h2,rfl⟩⟩⟩ | ⟨k1,⟨rfl,rfl⟩ | ⟨k2,⟨rfl,rfl⟩ | ⟨k3,rfl⟩⟩⟩
       all_goals
        go_wp2_with ((first
         | (go_at_call 52;refine (HAD.out _ HAL.out).mono ?_)
         | (go_at_call 53;refine (HTK.out _ HAL.out).mono ?_)
         | (go_at_call 54;refine (HSE.out _ HAL.out).mono ?_));rintro e w5 ⟨a5,c5,rfl,ho,hb⟩;have O5:=iA ho;have P5:=iA (P.out.later hb);have N5:=iA (NB.out.later hb);have X5:=iA (XB.out.later hb);have hx5:=aA X5.out;clear ho hb q0 q1 q2 q3 n0 n1 x0 x1 x2 x3 x4 x5 y0 y1;obtain ⟨x0,x1⟩:=X5.out.c2;have fx:=X5.out.free)
        go_meet;first
         | (have q:=k3;exact ⟨rfl,none,0,P.out,NB.out,fun e=>by cases e⟩)
         | exact ⟨rfl,aBv P5.out N5.out X5.out O5.out (by omega) (by omega) hwb⟩
         | exact ⟨rfl,(aBv P5.out N5.out X5.out O5.out (by omega) (by omega) hwb).alloc _⟩
      clear HAD HTK HSE HSV UB XB HAL P NB x0 x1 x2 x3 x4 x5 y0 y1 n0 n1 q0 q1 q2 q3;obtain ⟨rfl,a5,c5,hP,hN,hX⟩:=hcut;rename World=>w6;have P:=iA hP;have NB:=iA hN;obtain ⟨x0,x1,x2,x3,x4,x5,y0,y1,-,-,-,-,hz⟩:=hP.cells;obtain ⟨n5,t5,b5⟩:=SV;cases b5 with
      | false=>
        have E:=iA (HVQ0.out rfl);clear hX hN hP;go_wp2_with (go_at_call 51;refine (HSM.out _ P.out.B).mono ?_;rintro e w9 ⟨ra,rc,rfl,ho,hb⟩;have P9:=iA (P.out.later hb);have HO9:=iA ho;clear ho hb x0 x1 x2 x3 x4 x5 y0 y1;obtain ⟨-,-,-,-,-,-,-,-,z0,z1,g0,g1,hz9⟩:=P9.out.cells);refine bodyPost_ret (v:=?_) (by simp [results,Tryz.results21,go_sem,z0,z1];rfl) rfl ?_;rw [E.out];first
         | exact ⟨ra,⟨rc,rfl⟩,P9.out.done HO9.out hz⟩
         | exact ⟨ra,rc,rfl,P9.out.done HO9.out hz⟩
      | true=>
        have HX:=iA (hX rfl);obtain ⟨m0,m1⟩:=HX.out.1.c2;obtain ⟨n0,n1⟩:=hN.c2;have fn:=hN.free;have hn6:=aA hN;clear hX hN hP;go_wp2;have hT:dA (·=N) w6 ((w6.setCell ⟨N,0,none⟩ (.int .i64 n5)).setCell ⟨N,1,none⟩ (.slice a5 t5.length c5)):=((dA.refl (·=N) w6).setCell (Or.inl rfl) 0 _).setCell (Or.inl rfl) 1 _;exact ⟨⟨k+1,n5,t5,a5,c5,by omega,by go_num,iA (P.out.turn hT hNp),iA (aCb NB.out),iA ((eB.turned HX.out.2 hT (fun g h1 h2 e=>by omega)).mono (by omega)),(HOK0.out rfl).2,HBN.out,(HOK0.out rfl).1⟩,by simp [intOf];omega⟩
     ·have hr2:eF c now ts rs=(nk,tk,true):=by rw [←HR.out,List.drop_eq_nil_of_le (by omega)];rfl
      have E:Hid (V=(nk,tk,true)):=by show _=_;rw [HVT.out (by rw [hr2]),hr2]
      have hkl:¬((k:Int)<rs.length):=by omega
      obtain ⟨n0,n1⟩:=NB.out.c2;obtain ⟨-,-,-,-,-,-,-,-,z0,z1,g0,g1,hz⟩:=P.out.cells;clear hr2;go_wp2;refine bodyPost_ret (v:=?_) (by simp [results,Tryz.results21,go_sem,z0,z1];rfl) rfl ?_;rw [E.out];first
       | exact ⟨an,⟨cn,rfl⟩,P.out.done OB.out (by omega)⟩
       | exact ⟨an,cn,rfl,P.out.done OB.out (by omega)⟩
end Go.Proofs.YtcneojllbkacoaaGreatDoor
