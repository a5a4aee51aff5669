import Derived.Test.YtjpeimianeiegaaGreatDoorJ40
import Derived.Test.YtjpeimianeiegaaGreatDoorJ48
import Derived.Test.YtjpeimianeiegaaGreatDoorJ49
set_option maxRecDepth 100000
set_option maxHeartbeats 8000000
namespace Go.Proofs.YtjpeimianeiegaaGreatDoor
open Go.RowKit Tryz
section
open Go.Maps
attribute [local go_sem] AZ fU bd lA.drewI JG.drewI JG.new JG.alloc JG.alloc2
def aMy (V:cF×Int) (w:World) (e:Ending) (d:World):Prop:=
 ∃a ca b f,e=.returned (.tuple #[.agg (cG a ca b f V.1),.int .i64 V.2])/\iA d a V.1.d.fs/\eC d b V.1.ts/\Below w.heap.size w d
theorem aQa {d:Option Addr} {n ca:Nat} {e f g h:Int} {b:Bool}:∀(j:Nat) (s:ByteArray),(#[.slice d n ca,.int .i64 e,.int .i64 f,.int .i64 g,.int .i64 h,.bool b]:Array Value)[j]?≠some (Value.string s):=fun j s=>by
 match j with
 |0|1|2|3|4|5=>simp
 |j+6=>simp
theorem aIn {b:Option Addr} {n ca:Nat} {d:Int}:∀(j:Nat) (s:ByteArray),(#[.int .i64 d,.slice b n ca]:Array Value)[j]?≠some (Value.string s):=fun j s=>by
 match j with
 |0|1=>simp
 |j+2=>simp
section
variable {w W:World} {c:nB} {a a':Option Addr} {ca ca':Nat} {K K':kB}
theorem aNa {C:World->Prop} (h:OP w W c a ca K) (d:iA W a' K'.fs) (k:∀X,OP w X c a' ca' K'->iA X a' K'.fs->C X):C ((((((W.setCell ⟨w.heap.size+1,0,none⟩ (.slice a' K'.fs.length ca')).setCell ⟨w.heap.size+1,1,none⟩ (.int .i64 K'.c)).setCell ⟨w.heap.size+1,2,none⟩ (.int .i64 K'.k)).setCell ⟨w.heap.size+1,3,none⟩ (.int .i64 K'.cr)).setCell ⟨w.heap.size+1,4,none⟩ (.int .i64 K'.fl)).setCell ⟨w.heap.size+1,5,none⟩ (.bool K'.dn)):=by
 have b:gA (·=w.heap.size+1) W ((((((W.setCell ⟨w.heap.size+1,0,none⟩ (.slice a' K'.fs.length ca')).setCell ⟨w.heap.size+1,1,none⟩ (.int .i64 K'.c)).setCell ⟨w.heap.size+1,2,none⟩ (.int .i64 K'.k)).setCell ⟨w.heap.size+1,3,none⟩ (.int .i64 K'.cr)).setCell ⟨w.heap.size+1,4,none⟩ (.int .i64 K'.fl)).setCell ⟨w.heap.size+1,5,none⟩ (.bool K'.dn)):=((((((gA.refl (·=w.heap.size+1) W).setCell (Ba rfl) 0 _).setCell (Ba rfl) 1 _).setCell (Ba rfl) 2 _).setCell (Ba rfl) 3 _).setCell (Ba rfl) 4 _).setCell (Ba rfl) 5 _;exact k _ ⟨b.blk h.C (by omega),by have:=(((((h.D.set 0 (.slice a' K'.fs.length ca')).set 1 (.int .i64 K'.c)).set 2 (.int .i64 K'.k)).set 3 (.int .i64 K'.cr)).set 4 (.int .i64 K'.fl)).set 5 (.bool K'.dn);simpa using this,b.blk h.R (by omega),h.B.trans (b.below h.B.size fun k f e=>by omega)⟩ (d.store h.D aQa b)
theorem iY {C:World->Prop} {w:World} {cs:Array Value} {t:TypeId} (k:∀W,Below w.heap.size w W->lA W w.heap.size cs t->W.heap.size=w.heap.size+1->C W):C (w.alloc (.cells cs t)):=k _ (cA _ _) (lA.new w _ _) (by simp)
theorem aPj {C:World->Prop} {w:World} {o:Obj} (k:∀W,Below w.heap.size w W->C W):C (w.alloc o):=k _ (cA _ _)
theorem aNb {C:World->Prop} {W:World} {Y n b q d:Nat} {x f:Int} {s e:Option Addr} {t:TypeId} (h:lA W Y #[.int .i64 x,.slice s n q] t) (k:∀X,lA X Y #[.int .i64 f,.slice e b d] t->gA (·=Y) W X->C X):C ((W.setCell ⟨Y,0,none⟩ (.int .i64 f)).setCell ⟨Y,1,none⟩ (.slice e b d)):=
 k _ (by have:=(h.set 0 (.int .i64 f)).set 1 (.slice e b d);simpa using this) (((gA.refl (·=Y) W).setCell (Ba rfl) 0 _).setCell (Ba rfl) 1 _)
theorem OP.turn {Y:Nat} {X:World} (h:OP w W c a ca K) (b:gA (·=Y) W X) (d:w.heap.size+1+1<Y):OP w X c a ca K:=⟨b.blk h.C (by omega),b.blk h.D (by omega),b.blk h.R (by omega),h.B.trans (b.below h.B.size fun k f e=>by omega)⟩
theorem fO {j:Func} {t:Act} {V:cF×Int} {M:cF} {b:Int} {g:Option Addr} {f:Nat} (h:j.results=#[.cell 4 37,.tmp 5]) (l:t.tmps.getD 4 undef=.pointer (some ⟨w.heap.size+1+1,0,none⟩)) (m:t.tmps.getD 5 undef=.int .i64 b) (p:t.defers=[]) (P:OP w W c a ca K) (E:V=(M,b)) (n:iA W a' M.d.fs) (o:eC W g M.ts):bodyPost prog j (fun e q=>aMy V w e q) .ret t (W.setRow (w.heap.size+1+1) (cG a' ca' g f M)):=by
 refine bodyPost_ret (aHc h l m P.R.row (fU _ _ _ _ _)) p ?_;subst E;have i:=sR W (w.heap.size+1+1) (cG a' ca' g f M);exact⟨a',ca',g,f,rfl,n.store P.R (ab _ _ _ _ _) i,o.store P.R (ab _ _ _ _ _) i,P.B.trans (i.below P.B.size (fun k r e=>by omega))⟩
end
theorem aLv {K:kB} (b:dN K.fs):fI K.fs true false mZ=if LQ K mZ=true then(fk K,true) else(ByteArray.empty,false):=by
 unfold fI;rw[Ga ⟨rfl,rfl⟩,uT b (kG mZ b)];by_cases h:LQ K mZ=true
 ·obtain⟨d,_,e⟩:=ql h;rw[Ga h,Ga (show eF K.fs mZ (mA mZ K.fs)=true from h),Ga (by omega)];simp only[Mc,Ka d,e]
 ·rw[Ca h,Ca (show ¬eF K.fs mZ (mA mZ K.fs)=true from h),Ca (by decide)]
theorem aNn (K:kB):(fk K).size<=xA K.fs:=by
 unfold fk;cases hq:K.fs[mA mZ K.fs]? with
 |none=>exact Ha _
 |some f=>
  obtain⟨b,rfl⟩:=Va.1 hq;exact qR _ b
theorem vS.store {w W:World} {P:Nat} {cs:Array Value} {t:TypeId} (n:lA w P cs t) (k:∀(j:Nat) (s:ByteArray),cs[j]?≠some (Value.string s)) (m:gA (·=P) w W) {a:Option Addr} {l:List ByteArray} (h:vS w a l):vS W a l:=by
 rcases h with h|⟨b,o,e,d,h⟩
 ·exact Ba h
 ·cases l with
  |nil=>exact Ba rfl
  |cons f r=>
   obtain⟨p,q⟩:=mV n k m d (h 0 (by simp));exact Ea ⟨b,o,e,p,fun i g=>by rw[q];exact h i g⟩
theorem aJt {c:nB} {n:Int} {t:List eA} {rs:List dE} (b:iB c n t=true) (d:rs.length<=500):(xE c n t rs).2.2=true/\wZ c n t rs=xE c n t rs\/(xE c n t rs).2.2=false/\(wZ c n t rs).2.2=false:=by
 unfold wZ;rw[Ca (by rw[b];decide),Ca (by omega)];cases h:(xE c n t rs).2.2
 ·exact Ea ⟨rfl,by rw[Ca (by decide)]⟩
 ·exact Ba ⟨rfl,Ga rfl⟩
theorem UZ {K:kB} (h:GB K.fs):GB (fB K).1.fs:=by
 unfold fB;split
 ·exact dX h (by decide) (by decide)
 ·exact h
theorem od (c:nB) (a:Option Addr) (ca:Nat) (K:kB) (w:World) (h:aPi w a K):
 Calls prog 5 #[tE c,.agg #[.slice a K.fs.length ca,.int .i64 K.c,.int .i64 K.k,.int .i64 K.cr,.int .i64 K.fl,.bool K.dn]] w fun e w'=>aMy (cT c K) w e w':=by
 have HCF:=bA (fun W=>LB c W);have HDV:=bA (fun W (hW:Below w.heap.size w W)=>rZ a ca K.fs K.c K.k K.cr K.fl K.dn W (h.files.later hW) h.fit.r9 (Ma h.fit.len (by decide)) h.fit.sum);have HCP:=bA (fun W (hW:Below w.heap.size w W)=>ry a ca K W (h.files.later hW) h.fit.len);have HFT:=bA h.fit;have HSM:=bA h.sum;have HV0:=bA (show vF c=false->cT c K=(wO,61) from fun e=>Ga e);have HV1:=bA (show vF c=true->vC K.fs K.c K.k K.cr K.fl=false->cT c K=(wO,6) from fun e e2=>(Ca (by rw[e];decide)).trans (Ga e2));have HV2:=bA (show vF c=true->vC K.fs K.c K.k K.cr K.fl=true->cT c K=aLi (kR c K) from fun e e2=>(Ca (by rw[e];decide)).trans (Ca (by rw[e2];decide)));clear h;unfold tE at *;generalize cT c K=V at *;have fz:=ad;go_enter func5,ntmps5;go_wp2_with fail;refine(HCF.out _).mono ?_;rintro e w1 ⟨rfl,d⟩;have P:=bA ((OP.new (w:=w) (c:=c) (a:=a) (ca:=ca) (K:=K)).later d);clear d HCF;obtain⟨u,v,y,z,A,G,H,I,J,L,M,p,N,O,Q,R,U,X,z6⟩:=P.out.cells;cases hc:vF c with
 |false=>
  have E:=bA (HV0.out hc);go_wp2;exact fO rfl rfl rfl rfl P.out E.out (Ba rfl) (Ba rfl)
 |true=>
  replace HV1:=bA (HV1.out hc);replace HV2:=bA (HV2.out hc);have HC:=bA hc;clear hc HV0;go_wp2_with fail;refine(HDV.out _ P.out.B).mono ?_;rintro e w2 ⟨rfl,d⟩;replace P:=bA (P.out.later d);clear d HDV u v y z A G H I J L M p N O Q R U X z6;obtain⟨u,v,y,z,A,G,H,I,J,L,M,p,N,O,Q,R,U,X,z6⟩:=P.out.cells;cases hd:vC K.fs K.c K.k K.cr K.fl with
  |false=>
   have E:=bA (HV1.out hd);go_wp2;exact fO rfl rfl rfl rfl P.out E.out (Ba rfl) (Ba rfl)
  |true=>
   have E:=bA (HV2.out hd);have HVD:=bA hd;clear HV1 HV2 hd;go_wp2_with fail;refine(HCP.out _ P.out.B).mono ?_;rintro e w3 ⟨a3,c3,rfl,hf3,d⟩;replace P:=bA (P.out.later d);have d0:=P.out.D.free 0;have d1:=P.out.D.free 1;have d2:=P.out.D.free 2;have d3:=P.out.D.free 3;have d4:=P.out.D.free 4;have d5:=P.out.D.free 5;have F:=bA hf3.files;clear hf3 d HCP u v y z A G H I J L M p N O Q R U X z6;obtain⟨u,v,y,z,A,G,H,I,J,L,M,p,N,O,Q,R,U,X,z6⟩:=P.out.cells;go_upto_region 6 with fail;refine aNa (C:=fun W=>Code.wp prog _ _ _ W) (K':=K) P.out F.out ?_;intro w4 hP4 hF4;replace P:=bA hP4;replace F:=bA hF4;clear hP4 hF4 d0 d1 d2 d3 d4 d5 u v y z A G H I J L M p N O Q R U X z6;obtain⟨u,v,y,z,A,G,H,I,J,L,M,p,N,O,Q,R,U,X,z6⟩:=P.out.cells;cases hdn:K.dn with
   |true=>
    have E2:=bA (E.out.trans (show _=((⟨K,⟨0,0,0⟩,0,[],0,false,false⟩:cF),(1:Int)) by rw[show kR c K=(K,iD,(0,0,[]),1) from Ga hdn];rfl));have fM:=xP a3 c3 none 0 ⟨K,⟨0,0,0⟩,0,[],0,false,false⟩;simp only[Kc]at fM;rw[hdn]at fM p;clear hdn fz;go_wp2;exact fO rfl rfl rfl rfl P.out E2.out F.out (Ba rfl)
   |false=>
   obtain⟨hx6,hv1,hd1,hsl⟩:=vQ HVD.out hdn;have HF1:=bA (UZ HFT.out);have HS1:=bA (Ma hsl HSM.out);have HV1:=bA (show vC (fB K).1.fs (fB K).1.c (fB K).1.k (fB K).1.cr (fB K).1.fl=true/\((fB K).2=0->(fB K).1.dn=false) from⟨hv1,hd1⟩);have E3:=bA (show kR c K=if (fB K).2≠0 then((fB K).1,iD,(0,0,[]),(fB K).2)
    else if (tP c (fB K).1).2.2.2=false then((fB K).1,iD,(0,0,[]),62)
    else if (cD (fB K).1).2.2.2≠0 then((cD (fB K).1).1,iD,(0,0,[]),(cD (fB K).1).2.2.2)
    else aIe (cD (fB K).1).1 (cD (fB K).1).2.1 (nU c ((tP c (fB K).1).1,(tP c (fB K).1).2.1,(tP c (fB K).1).2.2.1) (cD (fB K).1).2.2.1) from Ca (by rw[hdn];decide))
   have ha:=jL (dD HVD.out).1;have HLF:=bA (fun W (hf:iA W a3 K.fs)=>AQ a3 c3 K.fs K.c K.k K.cr K.fl K.dn DW W hf (Ma HFT.out.len (by decide)));rw[uT ha (kG DW ha),hdn]at HLF;have HST:=bA (aIp (D:=K) (op:=an) HFT.out (by decide) (by decide) (by decide));unfold GK at HST;rw[hdn]at HST;have HDR:=bA (show eF K.fs DW (mA DW K.fs)=true/\fB K=wD K an\/eF K.fs DW (mA DW K.fs)=false/\fB K=(K,0) from(by
    cases hq:eF K.fs DW (mA DW K.fs)
    ·exact Ea ⟨rfl,Ca (by unfold LQ;rw[hq];decide)⟩
    ·exact Ba ⟨rfl,Ga hq⟩))
   rw[hdn]at p;have HDN:=bA hdn;clear hdn hx6 hv1 hd1 hsl ha;generalize fB K=DK at *;obtain⟨g,c1⟩:=DK;dsimp only at HF1 HS1 HV1;go_wp2_with fail;refine(HLF.out _ F.out).mono ?_;rintro e w5 ⟨rfl,d⟩;replace P:=bA (P.out.later d);replace F:=bA (F.out.later d);clear d HLF u v y z A G H I J L M p N O Q R U X z6;obtain⟨u,v,y,z,A,G,H,I,J,L,M,p,N,O,Q,R,U,X,z6⟩:=P.out.cells;rw[HDN.out]at p;go_upto_if 41 with fail;go_cut [6,7] (fun _ _ wx=>∃a' ca',OP w wx c a' ca' g/\iA wx a' g.fs/\c1=0)
   case first=>
    rcases HDR.out with⟨hq,e⟩|⟨hq,e⟩
    ·rw[hq,Ga rfl];rw[<-e]at HST;have hp:(0:Int)<=(mA DW K.fs:Nat):=Int.natCast_nonneg _;clear hq e HDR;go_wp2_with fail;refine(HST.out _ _ _ F.out).mono ?_;rintro e w6 ⟨a6,c6,rfl,hf6,d⟩;replace P:=bA (P.out.later d);have d0:=P.out.D.free 0;have d1:=P.out.D.free 1;have d2:=P.out.D.free 2;have d3:=P.out.D.free 3;have d4:=P.out.D.free 4;have d5:=P.out.D.free 5;have F6:=bA hf6;clear hf6 d HST u v y z A G H I J L M p N O Q R U X z6;obtain⟨u,v,y,z,A,G,H,I,J,L,M,p,N,O,Q,R,U,X,z6⟩:=P.out.cells;go_upto_region 11 with fail;refine aNa (C:=fun W=>Code.wp prog _ _ _ (W.alloc _)) (K':=g) P.out F6.out ?_;intro w7 hP7 hF7;refine aPj (C:=fun W=>Code.wp prog _ _ _ W) ?_;intro w8 hb8;replace P:=bA (hP7.later hb8);replace F:=bA (hF7.later hb8);clear hP7 hF7 hb8 F6 d0 d1 d2 d3 d4 d5 u v y z A G H I J L M p N O Q R U X z6;obtain⟨u,v,y,z,A,G,H,I,J,L,M,p,N,O,Q,R,U,X,z6⟩:=P.out.cells;by_cases hc1:c1=0
     ·subst hc1;go_wp2;go_meet;exact⟨a6,c6,P.out,F.out,trivial⟩
     ·have E2:=bA (E.out.trans (show _=((⟨g,⟨0,0,0⟩,0,[],0,false,false⟩:cF),(c1:Int)) by rw[E3.out,Ga hc1];exact Ca hc1));have fM:=xP a6 c6 none 0 ⟨g,⟨0,0,0⟩,0,[],0,false,false⟩;simp only[Kc]at fM;have g0:((c1:Int) != 0)=true:=by simpa using hc1
      clear fz E3;go_wp2;exact fO rfl rfl rfl rfl P.out E2.out F.out (Ba rfl)
    ·rw[hq,Ca (by decide)];have e1:c1=0:=(Prod.mk.inj e).2;have e2:g=K:=(Prod.mk.inj e).1;have HE:=bA (Ee e1 e2);clear hq e HDR HST e1 e2;go_wp2;go_meet;exact⟨a3,c3,HE.out.2 ▸ P.out,HE.out.2 ▸ F.out,HE.out.1⟩
   obtain⟨a5,c5,hP,hF,rfl⟩:=hcut;replace P:=bA hP;replace F:=bA hF;rename World=>w9;have hd1:=HV1.out.2 rfl;have hv1:=HV1.out.1;have ha1:=jL (dD hv1).1;have HRD:=bA (fun W (hf:iA W a5 g.fs)=>FF a5 c5 g.fs g.c g.k g.cr g.fl g.dn mZ W hf HF1.out.r9 (Ma HF1.out.len (by decide)) HF1.out.sum);rw[show fI g.fs (vC g.fs g.c g.k g.cr g.fl) g.dn mZ=(if LQ g mZ=true then(fk g,true) else(ByteArray.empty,false)) from(by rw[hv1,hd1];exact aLv ha1)]at HRD;replace E3:=bA (E3.out.trans (Ca (by simp)));have hsm:=Ma (aNn g) HS1.out;have HDC:=bA (fun W=>bm c (fk g) W hsm);unfold fY tE at HDC;obtain⟨RO,hRO⟩:∃RO,(if LQ g mZ=true then(fk g,true) else(ByteArray.empty,false))=RO:=⟨_,rfl⟩
   rw[hRO]at HRD;have HCW:=bA (show RO.2=true/\RO.1=fk g/\tP c g=pJ c (fk g)\/RO.2=false/\tP c g=(0,0,[],true) from(by
    subst hRO;cases hq:LQ g mZ
    ·exact Ea ⟨rfl,Ca (by rw[hq];decide)⟩
    ·exact Ba ⟨rfl,rfl,Ga hq⟩))
   obtain⟨rt,rb⟩:=RO;dsimp only at HCW HRD;have HCS:=bA (sT (K:=g) HC.out);have HOS:=bA (EC hv1 hd1);have hal:=aHh hv1 hd1;have HO:=bA (fun W (hf:iA W a5 g.fs)=>bp a5 c5 g W hf HF1.out);clear hRO hP hF hd1 hv1 ha1 HV1 HDR HST HDN u v y z A G H I J L M p N O Q R U X z6 hsm HVD HFT HSM;generalize tP c g=CK at *;generalize fk g=tx at *;generalize pJ c tx=DS at *;obtain⟨ls,nw,ts,ok⟩:=CK;obtain⟨u,v,y,z,A,G,H,I,J,L,M,p,N,O,Q,R,U,X,z6⟩:=P.out.cells;go_upto_region 15 with fail;refine iY (C:=fun W=>Code.wp prog _ _ _ W) ?_;intro w10 d hS hzz;clear hzz;have hYw:=P.out.lt;replace P:=bA (P.out.later d);replace F:=bA (F.out.later d);have S:=bA hS;clear d hS u v y z A G H I J L M p N O Q R U X z6;generalize w9.heap.size=Y at *;obtain⟨u,v,y,z,A,G,H,I,J,L,M,p,N,O,Q,R,U,X,z6⟩:=P.out.cells;go_wp2_with fail;refine(HRD.out _ F.out).mono ?_;rintro e w11 ⟨rfl,d⟩;replace P:=bA (P.out.later d);replace F:=bA (F.out.later d);replace S:=bA (S.out.later d);clear d HRD u v y z A G H I J L M p N O Q R U X z6;obtain⟨u,v,y,z,A,G,H,I,J,L,M,p,N,O,Q,R,U,X,z6⟩:=P.out.cells;go_upto_if 60 with fail;go_cut [8,12,13,14] (fun l8 _ _ _ wx=>∃sa sc,l8=.int .i64 ls/\OP w wx c a5 c5 g/\iA wx a5 g.fs/\lA wx Y #[.int .i64 nw,.slice sa ts.length sc] 35/\eC wx sa ts/\ok=true)
   case first=>
    rcases HCW.out with⟨rfl,rfl,e⟩|⟨rfl,e⟩
    ·subst e;dsimp only at HDC;clear HCW;go_wp2_with fail;refine(HDC.out _).mono ?_;rintro e w12 ⟨av,cap,rfl,hown,d⟩;replace P:=bA (P.out.later d);replace F:=bA (F.out.later d);replace S:=bA (S.out.later d);have T:=bA hown.tens;clear d hown HDC u v y z A G H I J L M p N O Q R U X z6;go_upto_region 18 with fail;refine iY (C:=fun W=>Code.wp prog _ _ _ W) ?_;intro w15 d hX hzz;clear hzz;replace P:=bA (P.out.later d);replace F:=bA (F.out.later d);replace S:=bA (S.out.later d);replace T:=bA (T.out.later d);have t0:w15.cell? ⟨w12.heap.size,0,none⟩=some (.int .i64 nw):=hX.cell 0;have t1:w15.cell? ⟨w12.heap.size,1,none⟩=some (.slice av ts.length cap):=hX.cell 1;have s0:=S.out.cell 0;have s1:=S.out.cell 1;have s2:=S.out.free 0;have s3:=S.out.free 1;have hYl:=aA S.out;clear d hX;obtain⟨u,v,y,z,A,G,H,I,J,L,M,p,N,O,Q,R,U,X,z6⟩:=P.out.cells;cases ok with
     |false=>
      have E2:=bA (E.out.trans (show _=((⟨g,⟨0,0,0⟩,0,[],0,false,false⟩:cF),(62:Int)) by rw[E3.out,Ga rfl];rfl));have fM:=xP a5 c5 none 0 ⟨g,⟨0,0,0⟩,0,[],0,false,false⟩;simp only[Kc]at fM;clear fz E3;go_wp2;exact fO rfl rfl rfl rfl P.out E2.out F.out (Ba rfl)
     |true=>
      go_wp2;go_meet;refine aNb (C:=fun W=>∃sa sc,_/\OP w W c a5 c5 g/\iA W a5 g.fs/\lA W Y #[.int .i64 nw,.slice sa ts.length sc] 35/\eC W sa ts/\_) S.out ?_;intro w13 hS ht;exact⟨av,cap,rfl,P.out.turn ht hYw,F.out.store S.out aIn ht,hS,T.out.store S.out aIn ht,trivial⟩
    ·simp only[Hb]at e;obtain⟨rfl,rfl,rfl,rfl⟩:=e;clear HCW HDC;go_wp2;go_meet;exact⟨none,0,rfl,P.out,F.out,S.out,Ba rfl,trivial⟩
   obtain⟨sa,sc,rfl,hP,hF,hS,hT,rfl⟩:=hcut;rename World=>w13;replace P:=bA hP;replace F:=bA hF;replace S:=bA hS;have T:=bA hT;replace E3:=bA (E3.out.trans (Ca (by simp)));obtain⟨hck1,hck2,hck3⟩:=HCS.out rfl;unfold OpenSpec at HO;generalize cD g=OO at *;obtain⟨m,L2,f,cd⟩:=OO;dsimp only at HO HOS E3 hal;have HI0:=bA (show iB c nw ts=true/\ts.length+nA ts+aN f<=1048576/\(0<=ls/\ls<=1000000000000000) from⟨hck2,by have:=HOS.out;have:=HS1.out;omega,hck3⟩);replace hal:f.length<=2100000:=by have:=HS1.out;omega
   clear hP hF hS hT HCS hck1 hck2 hck3 HOS HS1 HCW HDC u v y z A G H I J L M p N O Q R U X z6;obtain⟨u,v,y,z,A,G,H,I,J,L,M,p,N,O,Q,R,U,X,z6⟩:=P.out.cells;go_wp2_with fail;refine(HO.out _ F.out).mono ?_;rintro e w14 ⟨a7,c7,sl,sq,rfl,hf7,hst,d⟩;replace P:=bA (P.out.later d);replace S:=bA (S.out.later d);replace T:=bA (T.out.later d);replace F:=bA hf7;have ST:=bA hst;have hYZ:=aA S.out;clear d hf7 hst HO u v y z A G H I J L M p N O Q R U X z6;go_upto_region 23 with fail;refine iY (C:=fun W=>Code.wp prog _ _ _ (W.alloc _)) ?_;intro w15 d hX hz;refine iY (C:=fun W=>Code.wp prog _ _ _ W) ?_;intro w16 hb2 hL hzz;clear hzz;rw[hz]at hL;replace d:=pA d hb2;replace P:=bA (P.out.later d);replace S:=bA (S.out.later d);replace T:=bA (T.out.later d);replace F:=bA (F.out.later d);replace ST:=bA (ST.out.later d);have DX:=bA (hX.later hb2);have LX:=bA hL;clear d hb2 hX hL hz;generalize w14.heap.size=Z at *;have q0:w16.cell? ⟨Z,0,none⟩=some (.slice a7 m.fs.length c7):=DX.out.cell 0;have q1:w16.cell? ⟨Z,1,none⟩=some (.int .i64 m.c):=DX.out.cell 1;have q2:w16.cell? ⟨Z,2,none⟩=some (.int .i64 m.k):=DX.out.cell 2;have q3:w16.cell? ⟨Z,3,none⟩=some (.int .i64 m.cr):=DX.out.cell 3;have q4:w16.cell? ⟨Z,4,none⟩=some (.int .i64 m.fl):=DX.out.cell 4;have q5:w16.cell? ⟨Z,5,none⟩=some (.bool m.dn):=DX.out.cell 5;obtain⟨u,v,y,z,A,G,H,I,J,L,M,p,N,O,Q,R,U,X,z6⟩:=P.out.cells;by_cases hcd:cd=0;rotate_left
   ·have E2:=bA (E.out.trans (show _=((⟨m,⟨0,0,0⟩,0,[],0,false,false⟩:cF),(cd:Int)) by rw[E3.out,Ga hcd];exact Ca hcd));have fM:=xP a7 c7 none 0 ⟨m,⟨0,0,0⟩,0,[],0,false,false⟩;simp only[Kc]at fM;have g0:((cd:Int) != 0)=true:=by simpa using hcd
    clear fz E3;go_wp2;exact fO rfl rfl rfl rfl P.out E2.out F.out (Ba rfl)
   subst hcd;replace E3:=bA (E3.out.trans (Ca (by simp)));clear u v y z A G H I J L M p N O Q R U X z6 q0 q1 q2 q3 q4 q5;clear HF1;go_upto_region 25 with fail;go_wp2_with fail;go_loopw [8,20,21,22,23,24,88] (fun l8 _ _ _ _ _ i wr=>∃(j:Nat) (s:Int×Int×List eA) (sa:Option Addr) (sc:Nat),j<=f.length/\i=.int .i64 j/\l8=.int .i64 s.1/\Hid (OP w wr c a5 c5 g)/\Hid (lA wr Z #[.slice a7 m.fs.length c7,.int .i64 m.c,.int .i64 m.k,.int .i64 m.cr,.int .i64 m.fl,.bool m.dn] 30/\lA wr (Z+1) #[.int .i64 L2.first,.int .i64 L2.last,.int .i64 L2.size] 32)/\Hid (iA wr a7 m.fs)/\Hid (vS wr sl f)/\Hid (lA wr Y #[.int .i64 s.2.1,.slice sa s.2.2.length sc] 35)/\Hid (eC wr sa s.2.2)/\Hid (iB c s.2.1 s.2.2=true/\s.2.2.length+nA s.2.2+aN (f.drop j)<=1048576/\(0<=s.1/\s.1<=1000000000000000))/\Hid (nU c s (f.drop j)=nU c (ls,nw,ts) f)) (fun _ _ _ _ _ _ i _=>f.length-(intOf i).toNat)
   case atStart=>exact⟨0,(ls,nw,ts),sa,sc,Ha _,rfl,rfl,P.out,⟨DX.out,LX.out⟩,F.out,ST.out,S.out,T.out,HI0.out,rfl⟩
   case round=>
    obtain⟨j,s,sa,sc,hj,rfl,rfl,HP,r,HF,HS2,HS,HT,HI,HR⟩:=hrel;clear P F S T ST DX LX HI0;obtain⟨l,n,t⟩:=s;dsimp only at HS HT HI;by_cases hlt:j<f.length
    ·obtain⟨b,o,rfl,hbl,hcl⟩:∃b o,sl=some ⟨b,o,none⟩/\b<wr.heap.size/\wr.cell? ⟨b,o+j,none⟩=some (.string f[j]):=by
      rcases HS2.out with h|⟨b,o,e,h1,h2⟩
      ·rw[h]at hlt;exact absurd hlt (by simp)
      ·exact⟨b,o,e,h1,h2 j hlt⟩
     have hdr:=XM hlt;obtain⟨i1,i2,i3⟩:=HI.out;have HDB:=bA (fun W=>bj f[j] W (by omega));have HV:=bA (aId c l n t f[j]);have HL:=bA (fun h=>NW (s:=f[j]'hlt) h);have HRI:=bA (fun q (hq:yX c (l,n,t) f[j]=some q)=>ay hq i1 i3);have HRD:=bA (WV (c:=c) (s:=(l,n,t)) hlt);have HNO:=bA (show yX c (l,n,t) f[j]=none->V=((⟨m,⟨0,0,0⟩,0,[],0,false,false⟩:cF),(63:Int)) from fun e=>E.out.trans (by rw[E3.out,<-HR.out,HRD.out,e];rfl));have HAP:=bA (fun W av cap rs (h1:rs.length<=500) (h2:12*rs.length+fE rs<=f[j].size) (ht:eC W sa t) (hr:pK W av rs)=>TJ c n sa sc t av cap rs W ht hr (by omega));have HAV:=bA (fun rs (h1:rs.length<=500)=>aJt (rs:=rs) i1 h1);have hw1:IntKind.i64.wrap (l+1)=l+1:=by rw[IntKind.wrap_i64];omega
     unfold CC tE at HAP;generalize f[j]=py at *;generalize yX c (l,n,t) py=V2 at *;generalize fF py=DD at *;obtain⟨bl,rs,ok⟩:=DD;dsimp only at HDB HV HL;clear E E3 i1 i3;go_wp2_with fail;refine(HDB.out _).mono ?_;rintro e w17 ⟨av,cap,rfl,hrec,d⟩;go_upto_region 29 with fail;refine iY (C:=fun W=>Code.wp prog _ _ _ W) ?_;intro w18 hb2 hX hzz;clear hzz;have RC:=bA (hrec.later hb2);replace d:=pA d hb2;replace HP:=bA (HP.out.later d);replace r:=bA (show lA w18 Z _ _/\lA w18 (Z+1) _ _ from⟨r.out.1.later d,r.out.2.later d⟩);replace HF:=bA (HF.out.later d);replace HS2:=bA (HS2.out.later d);replace HS:=bA (HS.out.later d);replace HT:=bA (HT.out.later d);have b0:w18.cell? ⟨w17.heap.size,0,none⟩=some (.int .i64 bl):=hX.cell 0;have b1:w18.cell? ⟨w17.heap.size,1,none⟩=some (.slice av rs.length cap):=hX.cell 1;have HX:=bA hX;clear d hb2 hX hrec HDB hcl;generalize w17.heap.size=bx at *;have fM:=xP a7 c7 none 0 ⟨m,⟨0,0,0⟩,0,[],0,false,false⟩;simp only[Kc]at fM;have q0:w18.cell? ⟨Z,0,none⟩=some (.slice a7 m.fs.length c7):=r.out.1.cell 0;have q1:w18.cell? ⟨Z,1,none⟩=some (.int .i64 m.c):=r.out.1.cell 1;have q2:w18.cell? ⟨Z,2,none⟩=some (.int .i64 m.k):=r.out.1.cell 2;have q3:w18.cell? ⟨Z,3,none⟩=some (.int .i64 m.cr):=r.out.1.cell 3;have q4:w18.cell? ⟨Z,4,none⟩=some (.int .i64 m.fl):=r.out.1.cell 4;have q5:w18.cell? ⟨Z,5,none⟩=some (.bool m.dn):=r.out.1.cell 5;have s0:w18.cell? ⟨Y,0,none⟩=some (.int .i64 n):=HS.out.cell 0;have s1:w18.cell? ⟨Y,1,none⟩=some (.slice sa t.length sc):=HS.out.cell 1;obtain⟨u,v,y,z,A,G,H,I,J,L,M,p,N,O,Q,R,U,X,z6⟩:=HP.out.cells;rcases HV.out with⟨rfl,e⟩|⟨rfl,⟨h1,e⟩|⟨h1,he⟩⟩
     ·have E2:=bA (HNO.out e);clear fz HNO HRI HRD HV HL HAP HAV e HR HI;go_wp2;exact fO rfl rfl rfl rfl HP.out E2.out HF.out (Ba rfl)
     ·have HR2:=bA (show nU c (l,n,t) (f.drop (j+1))=nU c (ls,nw,ts) f from(by have h:=HRD.out;rw[e]at h;exact h.symm.trans HR.out));have HI2:=bA (show iB c n t=true/\t.length+nA t+aN (f.drop (j+1))<=1048576/\(0<=l/\l<=1000000000000000) from⟨HI.out.1,by omega,HI.out.2.2⟩);clear fz fM HNO HRI HRD HV HL HAP HAV e HR HI i2;go_wp2;refine⟨⟨_,_,_,_,_,_,_,_,_,_,_,_,_,_,_,_,_,_,_,_,_,_,_,_,_,_,_,_,_,_,_,_,_,_,_,_,_,_,_,_,_,_,_,_,_,_,_,⟨j+1,(l,n,t),sa,sc,by omega,?_,?_,HP.out,r.out,HF.out,HS2.out,HS.out,HT.out,HI2.out,HR2.out⟩,rfl⟩,?_⟩
      ·go_num
      ·rfl
      ·simp[intOf];omega
     obtain⟨_,hl5,hsz,_⟩:=HL.out rfl;have HA1:=bA (HAV.out rs hl5);have HA:=bA (HAP.out w18 av cap rs hl5 (by omega) HT.out RC.out);have HW:=bA (show(¬bl=l+1/\V2=none\/bl=l+1/\((xE c n t rs).2.2=false/\V2=none\/(xE c n t rs).2.2=true/\V2=some (l+1,(xE c n t rs).1,(xE c n t rs).2.1))) from he);clear HL HAP HAV HV he RC HI;generalize xE c n t rs=RV at *;generalize wZ c n t rs=AV at *;obtain⟨n5,t5,b5⟩:=AV;dsimp only at HA HA1;go_wp2_with fail;refine HA.out.mono ?_;rintro e w19 ⟨aa,cc,rfl,hown,d⟩;go_upto_region 33 with fail;refine iY (C:=fun W=>Code.wp prog _ _ _ W) ?_;intro w20 hb2 hX2 hzz;clear hzz;have TN:=bA (hown.tens.later hb2);replace d:=pA d hb2;replace HP:=bA (HP.out.later d);replace r:=bA (show lA w20 Z _ _/\lA w20 (Z+1) _ _ from⟨r.out.1.later d,r.out.2.later d⟩);replace HF:=bA (HF.out.later d);replace HS2:=bA (HS2.out.later d);replace HS:=bA (HS.out.later d);replace HX:=bA (HX.out.later d);have g2:w20.cell? ⟨w19.heap.size,0,none⟩=some (.int .i64 n5):=hX2.cell 0;have g3:w20.cell? ⟨w19.heap.size,1,none⟩=some (.slice aa t5.length cc):=hX2.cell 1;clear d hb2 hX2 hown HA HT u v y z A G H I J L M p N O Q R U X z6 q0 q1 q2 q3 q4 q5 s0 s1 b0 b1;generalize w19.heap.size=nx at *;have b0:w20.cell? ⟨bx,0,none⟩=some (.int .i64 bl):=HX.out.cell 0;have q0:w20.cell? ⟨Z,0,none⟩=some (.slice a7 m.fs.length c7):=r.out.1.cell 0;have q1:w20.cell? ⟨Z,1,none⟩=some (.int .i64 m.c):=r.out.1.cell 1;have q2:w20.cell? ⟨Z,2,none⟩=some (.int .i64 m.k):=r.out.1.cell 2;have q3:w20.cell? ⟨Z,3,none⟩=some (.int .i64 m.cr):=r.out.1.cell 3;have q4:w20.cell? ⟨Z,4,none⟩=some (.int .i64 m.fl):=r.out.1.cell 4;have q5:w20.cell? ⟨Z,5,none⟩=some (.bool m.dn):=r.out.1.cell 5;have s0:w20.cell? ⟨Y,0,none⟩=some (.int .i64 n):=HS.out.cell 0;have s1:w20.cell? ⟨Y,1,none⟩=some (.slice sa t.length sc):=HS.out.cell 1;have s2:=HS.out.free 0;have s3:=HS.out.free 1;obtain⟨u,v,y,z,A,G,H,I,J,L,M,p,N,O,Q,R,U,X,z6⟩:=HP.out.cells;have hW:(bl != l+1)=true/\V2=none\/bl=l+1/\(b5=false/\V2=none\/b5=true/\V2=some (l+1,n5,t5)):=by
      rcases HW.out with⟨h2,e⟩|⟨h2,⟨h3,e⟩|⟨h3,e⟩⟩
      ·exact Ba ⟨by simpa using h2,e⟩
      ·exact Ea ⟨h2,Ba ⟨HA1.out.elim (fun x=>by rw[h3]at x;cases x.1) Zg,e⟩⟩
      ·have h4:=HA1.out.elim Zg (fun x=>by rw[h3]at x;cases x.1);subst h4;exact Ea ⟨h2,Ea ⟨h3,e⟩⟩
     clear HW HA1;rcases hW with⟨g0,e⟩|⟨rfl,⟨rfl,e⟩|⟨rfl,e⟩⟩
     ·have E2:=bA (HNO.out e);clear fz HNO HRI HRD e HR;go_wp2;exact fO rfl rfl rfl rfl HP.out E2.out HF.out (Ba rfl)
     ·have E2:=bA (HNO.out e);have g0:(l+1 != l+1)=false:=by simp
      clear fz HNO HRI HRD e HR;go_wp2;exact fO rfl rfl rfl rfl HP.out E2.out HF.out (Ba rfl)
     ·have HR2:=bA (show nU c (l+1,n5,t5) (f.drop (j+1))=nU c (ls,nw,ts) f from(by have h:=HRD.out;rw[e]at h;exact h.symm.trans HR.out));obtain⟨k1,k2,k3⟩:=HRI.out _ e;dsimp only at k1 k2 k3;have HI2:=bA (show iB c n5 t5=true/\t5.length+nA t5+aN (f.drop (j+1))<=1048576/\(0<=l+1/\l+1<=1000000000000000) from⟨k1,by omega,k2⟩);have g0:(l+1 != l+1)=false:=by simp
      clear fz fM HNO HRI HRD e HR k1 k2 k3 i2;go_upto_region 36 with fail;refine aNb (C:=fun W=>Code.wp prog _ _ _ W) HS.out ?_;intro w21 hS3 ht;have P3:=bA (HP.out.turn ht hYw);have D3:=bA (show lA w21 Z _ _/\lA w21 (Z+1) _ _ from⟨ht.blk r.out.1 (by omega),ht.blk r.out.2 (by omega)⟩);have F3:=bA (HF.out.store HS.out aIn ht);have S3:=bA (HS2.out.store HS.out aIn ht);have T3:=bA (TN.out.store HS.out aIn ht);have Y3:=bA hS3;clear hS3 ht HP r HF HS2 HS TN HX b0 g2 g3 q0 q1 q2 q3 q4 q5 s0 s1 s2 s3 u v y z A G H I J L M p N O Q R U X z6;go_wp2;refine⟨⟨_,_,_,_,_,_,_,_,_,_,_,_,_,_,_,_,_,_,_,_,_,_,_,_,_,_,_,_,_,_,_,_,_,_,_,_,_,_,_,_,_,_,_,_,_,_,_,⟨j+1,(l+1,n5,t5),aa,cc,by omega,?_,?_,P3.out,D3.out,F3.out,S3.out,Y3.out,T3.out,HI2.out,HR2.out⟩,rfl⟩,?_⟩
      ·go_num
      ·rfl
      ·simp[intOf];omega
    ·obtain rfl:j=f.length:=by omega
     have E2:=bA (E.out.trans (show _=((⟨m,L2,n,t,l,false,true⟩:cF),(0:Int)) by rw[E3.out,<-HR.out,Gg];rfl));have fM:=xP a7 c7 sa sc ⟨m,L2,n,t,l,false,true⟩;dsimp only at fM;have q0:wr.cell? ⟨Z,0,none⟩=some (.slice a7 m.fs.length c7):=r.out.1.cell 0;have q1:wr.cell? ⟨Z,1,none⟩=some (.int .i64 m.c):=r.out.1.cell 1;have q2:wr.cell? ⟨Z,2,none⟩=some (.int .i64 m.k):=r.out.1.cell 2;have q3:wr.cell? ⟨Z,3,none⟩=some (.int .i64 m.cr):=r.out.1.cell 3;have q4:wr.cell? ⟨Z,4,none⟩=some (.int .i64 m.fl):=r.out.1.cell 4;have q5:wr.cell? ⟨Z,5,none⟩=some (.bool m.dn):=r.out.1.cell 5;have q6:wr.cell? ⟨Z+1,0,none⟩=some (.int .i64 L2.first):=r.out.2.cell 0;have q7:wr.cell? ⟨Z+1,1,none⟩=some (.int .i64 L2.last):=r.out.2.cell 1;have q8:wr.cell? ⟨Z+1,2,none⟩=some (.int .i64 L2.size):=r.out.2.cell 2;have s0:wr.cell? ⟨Y,0,none⟩=some (.int .i64 n):=HS.out.cell 0;have s1:wr.cell? ⟨Y,1,none⟩=some (.slice sa t.length sc):=HS.out.cell 1;obtain⟨u,v,y,z,A,G,H,I,J,L,M,p,N,O,Q,R,U,X,z6⟩:=HP.out.cells;clear fz E E3 HR HI;go_wp2;exact fO rfl rfl rfl rfl HP.out E2.out HF.out HT.out
end
