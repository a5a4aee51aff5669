import Derived.Test.YtabgbmfcbobamaaGreatDoorJ51
import Derived.Test.YtabgbmfcbobamaaGreatDoorJ50
set_option maxRecDepth 100000
set_option maxHeartbeats 8000000
namespace Go.Proofs.YtabgbmfcbobamaaGreatDoor
open Go.RowKit Tryz
theorem uk {b:List lC} (h:∀r∈b,sN r):rg b/\rh b/\MW b:=by
 refine⟨fun i a=>?_,fun i a=>?_,fun i a=>?_⟩
 ·have:=h _ (Xa a);exact⟨Ra this.1 (by decide),Ra this.2.1 (by decide)⟩
 ·have:=h _ (Xa a);exact⟨Ra this.1 (by decide),Ra this.2.1 (by decide)⟩
 ·exact(h _ (Xa a)).2.2
theorem XO:∀{rs:List lC},(∀r∈rs,sN r)->(qF rs).size<=rs.length*140012
 |[],_=>La _
 |r::q,h=>by
  have a:=h r (Pb ..);have c:=XO (rs:=q) fun x b=>h x (Cb _ b);rw[qF,Ga,OX,Jb];unfold sN at a;omega
theorem ni {lsn:Int} {a:List lC} (h:∀r∈a,sN r) (c:a.length<=600):(zG lsn a).size<=1000000000:=by
 by_cases b:zQ lsn a
 ·have:=XO h;rw[AG b,Ga,AJ];omega
 ·rw[sW b];decide
def cvC:Op:=Op.convert 22 9 (Operand.tmp 201)
theorem DJ:∀(a:List zc) (i:Nat) (h:i<a.length),(sV a)[i*2]?=some (.int .i64 a[i].now)/\(sV a)[i*2+1]?=some (.slice a[i].b a[i].ts.length a[i].cb)
 |z::r,0,_=>⟨rfl,rfl⟩
 |z::r,i+1,h=>by
  have:=DJ r i (by simpa using h);have e:sV (z::r)=.int .i64 z.now :: .slice z.b z.ts.length z.cb::sV r:=rfl;rw[e,show(i+1)*2=i*2+1+1 by omega,Ia,Ia,Ia,Ia,Ic];exact this
theorem aGs {w:World} {B g n c:Nat} {a:List zc} (h:w.ownsRow B 51 2 (.slice (some ⟨g,0,none⟩) n c) n (sV a)) {i:Nat} (f:i<a.length):w.cell? ⟨g,i*2,none⟩=some (.int .i64 a[i].now)/\w.cell? ⟨g,i*2+1,none⟩=some (.slice a[i].b a[i].ts.length a[i].cb)/\g<w.heap.size:=by
 have k:∀j,(⟨g,0,none⟩:Addr).add j=⟨g,j,none⟩:=fun j=>by unfold Addr.add;split<;>simp_all
 have d:=h.cells rfl (i*2) _ (DJ a i f).1;have e:=h.cells rfl (i*2+1) _ (DJ a i f).2;rw[k]at d e;exact⟨d,e,(h.lt g rfl).2⟩
theorem aDt {a:List dA} (h:xD a<=600000):yy a/\a.length<=2000000/\(iC a).size<=100000000/\∀i (h:i<a.length),a[i].m9.length<=maxLen/\a[i].s9.length<=maxLen:=by
 obtain⟨m,n,_⟩:=pQ a;have d:=AW (ts:=a) (by omega);refine⟨fun i b=>?_,by omega,by omega,fun i b=>?_⟩
 ·obtain⟨l,e,f,g,k⟩:=d _ (Xa b);exact⟨by omega,by omega,by omega,fun j c=>Ra (e _ (Xa c)) (by decide),fun j c=>Ra (f _ (Xa c)) (by decide)⟩
 ·obtain⟨l,e,f,g,k⟩:=d _ (Xa b);exact⟨Ra g (by decide),Ra k (by decide)⟩
theorem qo {s:ByteArray} (h:s.size=0):s=ByteArray.empty:=by
 obtain⟨⟨l⟩⟩:=s;cases l with
 |nil=>rfl
 |cons x r=>exact absurd h (by simp[ByteArray.size])
theorem MN {s:ByteArray} (h:s.size≠0):s.toList.isEmpty=false:=pW.2 fun e=>h (by rw[e];rfl)
theorem fk (a b:Option Addr) (n cn m cm:Nat) (w:World) (hA:gO w w.heap.size w.heap.size a n) (hB:gO w w.heap.size w.heap.size b m) (hn:n<=maxLen) (hm:m<=maxLen) (hT:xI w) (hS:tN w):
 Calls prog 3 #[.slice a n cn,.slice b m cm] w fun e D=>e=.returned (.bool true)/\Below w.heap.size w D:=by
 unfold maxLen at hn hm;have HA:=bA hA;have HBB:=bA hB;have HT:=bA (Ud hT hS);clear hA hB hT hS;by_cases hbn:(1048576:Int)<n
 ·go_enter func3,ntmps3;go_wp2;go_ret;exact⟨rfl,Below.refl _ _⟩
 by_cases hbm:(1048576:Int)<m
 ·go_enter func3,ntmps3;go_wp2;go_ret;exact⟨rfl,Below.refl _ _⟩
 go_enter func3,ntmps3;go_wp2_with fail;refine(SU a n cn w (by omega) HA.out).mono ?_;rintro e w1 ⟨⟨I,a1,c1,rs,rfl,hl,hrl,hg,hin⟩,b0⟩;obtain⟨hbg,hbg2,hrg⟩:=uk hg;have hbs:=ni (lsn:=I) hg hrl;go_upto_region 4 with fail;refine jF (C:=fun W=>Code.wp prog _ _ _ W) ?_;intro w2 H X2 hz2;clear hz2;have RI:=bA (hin.later H);have T:=bA (nA b0 H);have M:=bA X2;have HIB:=bA (fun W (h:gF W a1 rs)=>FK I a1 c1 rs W h hbg (by omega));have HSB:=bA (fun W (h:gF W a1 rs)=>GI I a1 c1 rs W h hbg2 hrg hl (by omega));have N:=bA (fun W=>TP (zG I rs) W hbs);have HDE:=bA (fun(h:(zG I rs).size≠0)=>aDy h hrg rfl);unfold dd at N;clear hin b0 H X2 hg hbg hbg2 hrg hbs hl;generalize zG I rs=tx at *;generalize w1.heap.size=P at *;clear w1;have Y:=M.out.cell 0;have S:=M.out.cell 1;go_wp2_with fail;refine(HIB.out _ RI.out).mono ?_;rintro e o ⟨rfl,d⟩;replace RI:=bA (RI.out.later d);replace T:=bA (nA T.out d);replace M:=bA (M.out.later d);clear d HIB Y S;have Y:=M.out.cell 0;have S:=M.out.cell 1;go_wp2_with fail;refine(HSB.out _ RI.out).mono ?_;rintro e w4 ⟨rfl,d⟩;replace RI:=bA (RI.out.later d);replace T:=bA (nA T.out d);replace M:=bA (M.out.later d);clear d HSB Y S;go_upto_if 42 with fail;go_cut [7,8,9] (fun _ _ _ wx=>Below w.heap.size w wx)
 case first=>as_aux_lemma=>
  by_cases hz:tx.size=0
  ·have e1:(!tx.toList.isEmpty)=false:=by rw[VO.2 (qo hz)];rfl
   rw[e1];clear HDE N hz;go_wp2;go_meet;exact T.out
  ·have e1:(!tx.toList.isEmpty)=true:=by rw[MN hz];rfl
   rw[e1];have HE:=bA (HDE.out hz);rw[HE.out]at N;dsimp only at N;clear HDE HE hz;go_wp2_with fail;refine(N.out _).mono ?_;rintro e w5 ⟨av,cp,rfl,ho,d⟩;replace RI:=bA (RI.out.later d);replace T:=bA (nA T.out d);replace M:=bA (M.out.later d);have RO:=bA ho.recs;clear d ho N;go_upto_region 9 with fail;refine jF (C:=fun W=>Code.wp prog _ _ _ W) ?_;intro w6 hb6 GB hz6;clear hz6;replace RI:=bA (RI.out.later hb6);replace RO:=bA (RO.out.later hb6);replace T:=bA (nA T.out hb6);replace M:=bA (M.out.later hb6);have HG:=bA GB;clear hb6 GB;generalize w5.heap.size=G at *;clear w5;have Y:=M.out.cell 0;have S:=M.out.cell 1;have g0:=HG.out.cell 0;have g1:=HG.out.cell 1;go_wp2;clear Y S g0 g1;go_loopw [9,69] (fun _ i wr=>∃k:Nat,k<=rs.length/\i=.int .i64 (k:Nat)/\Hid (Below w6.heap.size w6 wr)) (fun _ i _=>rs.length-(intOf i).toNat)
   case atStart=>exact⟨0,La _,rfl,Below.refl _ _⟩
   case round=>
    obtain⟨k,hk,rfl,HB⟩:=hrel;by_cases hlt:k<rs.length
    ·have hlt':(k:Int)<(rs.length:Nat):=by omega
     have XR:=bA (M.out.later HB.out);have GR:=bA (HG.out.later HB.out);have S:=XR.out.cell 1;have g1:=GR.out.cell 1;obtain⟨b1,o1,rfl,b0,d0,d1,d2,d3⟩:=(RI.out.later HB.out).at hlt;obtain⟨b2,o2,rfl,H,s0,s1,s2,s3⟩:=(RO.out.later HB.out).at hlt;generalize rs[k]=r at *;go_wp2_with fail;go_region
     go_wp2;exact⟨⟨k+1,by omega,by go_num,HB.out.drew⟩,by simp[intOf];omega⟩
    ·have hlt':¬(k:Int)<(rs.length:Nat):=by omega
     go_wp2;go_meet;exact nA T.out HB.out
 have B3:=bA hcut;clear hcut M RI T N HDE hrl;clear w4;rename World=>wc;go_wp2_with fail;refine(SY a n cn wc (by omega) (HA.out.up B3.out B3.out.size)).mono ?_;rintro e w1 ⟨c,qs,a1,c1,v2,ks,rfl,hdc,hql,hin,-,-,b0⟩;unfold iD;go_upto_region 18 with fail;refine jF (C:=fun W=>Code.wp prog _ _ _ W) ?_;intro w2 H CB hz2;clear hz2;have C2:=bA CB;have IN2:=bA (hin.later H);have T:=bA (nA B3.out (nA b0 H));have HDC:=bA (ug hdc);have HHR:=bA (fun W (h:RN dV W wc.heap.size w1.heap.size a1 qs)=>ul c HDC.out a1 c1 qs wc.heap.size w1.heap.size W h hql);unfold iD at HHR;clear hin b0 H CB hdc B3;generalize w1.heap.size=P at *;generalize wc.heap.size=LO at *;clear wc w1;have Y:=C2.out.cell 0;have S:=C2.out.cell 1;have L:=C2.out.cell 2;have x3:=C2.out.cell 3;have x4:=C2.out.cell 4;have x5:=C2.out.cell 5;go_wp2_with fail;refine(HHR.out _ IN2.out).mono ?_;rintro e o ⟨g,cap,u,zs,rfl,hzl,hrow,hG,hb3⟩;have B4:=bA (nA T.out hb3);have C4:=bA (C2.out.later hb3);have IN4:=bA (IN2.out.later hb3);have HZ:=bA (Ud hrow hG);clear hb3 hrow hG HHR T C2 IN2 Y S L x3 x4 x5;go_wp2;go_loopw [15,16,17,18,19,20,21,22,23,24,98] (fun _ _ _ _ _ _ _ _ _ _ i wr=>∃k:Nat,k<=qs.length/\i=.int .i64 (k:Nat)/\Hid (Below o.heap.size o wr)) (fun _ _ _ _ _ _ _ _ _ _ i _=>qs.length-(intOf i).toNat)
 case atStart=>exact⟨0,La _,rfl,Below.refl _ _⟩
 case round=>
  obtain⟨k,hk,rfl,HB⟩:=hrel;by_cases hlt:k<qs.length
  ·have hlt':(k:Int)<(qs.length:Nat):=by omega
   obtain⟨g1,rfl,hg1,f,hpart⟩:=(IN4.out.later HB.out).at hlt;have Y:=f 0 (by decide);have S:=f 1 (by decide);have L:=f 2 (by decide);have x3:=f 3 (by decide);have x4:=f 4 (by decide);simp only[dV,Cc,Ia,Bf]at Y S L x3 x4;have HP:=bA (QV.said hpart);clear f hpart;generalize qs[k]=q at *;go_upto_region 22 with fail;refine jF (C:=fun W=>Code.wp prog _ _ _ W) ?_;intro w5 hb5 QB hz5;clear hz5 Y S L x3 x4 hg1;obtain⟨hsm,hok,hxs,hrb,hrn,hrz,hbk,hnm,hbt,hdr⟩:=HP.out;have hsl:q.req.smps.length=q.ys.length:=Rb ..;have l:=bA (nA HB.out hb5);have HST:=bA (fun W (E:Below o.heap.size o W)=>HT.out.2.later (nA B4.out E));have HUT:=bA (fun W (E:Below o.heap.size o W)=>HT.out.1.later (nA B4.out E));have a0:=bA (fun W a c (h:sE W a q.req.smps) (E:Below o.heap.size o W)=>FN q.req a c W h (by omega) (HST.out W E));have HSE:=bA (fun W a c (h:sE W a q.req.smps)=>oW q.req a c W h (by omega) hnm hbt);have F:=bA (fun W (E:Below o.heap.size o W)=>TQ (aG q.req) W (by omega) (HST.out W E));unfold tK at F;rw[hdr]at F;dsimp only at F;rw[hsl]at F a0 HSE;have hne:=MN hrn;have SM:=bA (hsm.later hb5);replace a0:Hid (∀W a c,sE W a q.req.smps->Below o.heap.size o W->Calls prog 10 #[.agg #[.int .i64 q.kind,.string q.n9,.string q.metric,.int .i64 q.num,.slice a q.ys.length c]] W fun e D=>e=.returned (.string (aG q.req))/\Below W.heap.size W D):=a0;replace HSE:Hid (∀W a c,sE W a q.req.smps->Calls prog 11 #[.agg #[.int .i64 q.kind,.string q.n9,.string q.metric,.int .i64 q.num,.slice a q.ys.length c]] W fun e D=>e=.returned (.string (aG q.req))/\Below W.heap.size W D):=HSE;replace F:Hid (∀W,Below o.heap.size o W->Calls prog 12 #[.string (aG q.req)] W fun e D=>∃av cap,e=.returned (.tuple #[.agg #[.int .i64 q.kind,.string q.n9,.string q.metric,.int .i64 q.num,.slice av q.ys.length cap],.bool true])/\tD D W.heap.size av q.req.smps/\Below W.heap.size W D):=F;have j:=bA QB;clear hsm hok hxs hrb hrn hrz hbk hnm hbt hdr hsl HP hb5 QB HB;generalize aG q.req=sq at *;generalize wr.heap.size=Q at *;clear wr;obtain⟨q0,q1,q2,q3,q4⟩:=j.out.c5;go_wp2_with fail;refine(a0.out _ _ _ SM.out l.out).mono ?_;rintro e w6 ⟨rfl,d⟩;replace l:=bA (nA l.out d);replace j:=bA (j.out.later d);replace SM:=bA (SM.out.later d);clear d q0 q1 q2 q3 q4;obtain⟨q0,q1,q2,q3,q4⟩:=j.out.c5;go_wp2_with fail;refine(HSE.out _ _ _ SM.out).mono ?_;rintro e w7 ⟨rfl,d⟩;replace l:=bA (nA l.out d);replace j:=bA (j.out.later d);clear d HSE q0 q1 q2 q3 q4 SM;go_wp2_with fail;refine(F.out _ l.out).mono ?_;rintro e w8 ⟨av,cp,rfl,ho,d⟩;replace l:=bA (nA l.out d);replace j:=bA (j.out.later d);have SM:=bA ho.smps;clear d ho F;go_upto_region 26 with fail;refine jF (C:=fun W=>Code.wp prog _ _ _ W) ?_;intro w9 hb9 KB hz9;clear hz9;replace l:=bA (nA l.out hb9);replace j:=bA (j.out.later hb9);replace SM:=bA (SM.out.later hb9);have KB9:=bA KB;clear hb9 KB;generalize w8.heap.size=K at *;obtain⟨q0,q1,q2,q3,q4⟩:=j.out.c5;obtain⟨k0,k1,k2,k3,k4⟩:=KB9.out.c5;go_wp2_with fail;refine(a0.out _ _ _ SM.out l.out).mono ?_;rintro e w10 ⟨rfl,d⟩;replace l:=bA (nA l.out d);replace j:=bA (j.out.later d);replace KB9:=bA (KB9.out.later d);clear d q0 q1 q2 q3 q4 k0 k1 k2 k3 k4 a0 SM;obtain⟨q0,q1,q2,q3,q4⟩:=j.out.c5;obtain⟨k0,k1,k2,k3,k4⟩:=KB9.out.c5;have hkz:k<zs.length:=by omega
   obtain⟨z0,z1,hgz⟩:=aGs HZ.out.1 hkz;have Z:=bA (HZ.out.2 _ (Xa hkz));generalize zs[k]=z at *;have hzc0:=(l.out.cell hgz).trans z0;have hzc1:=(l.out.cell hgz).trans z1;have HZC:=bA (Ud z0 z1);have hkk2:(k:Int)<(qs.length:Int)+1:=by omega
   have hkk3:(0:Int)<=(k:Int):=by omega
   obtain⟨hsok,hssz,hsne,hsrg,hsnw⟩:=MI (lsn:=(k:Int)) Z.out.2.1 (Ra Z.out.2.2 (by decide)) (by omega) (by omega);have hstd:=zu (c:=c) hsne (Ra hssz (by decide)) hsnw hsrg rfl Z.out.2.1;obtain⟨hbe,hbl,hbz,hbm2⟩:=aDt Z.out.2.2;have TZ:=bA (fun W (E:Below o.heap.size o W)=>Z.out.1.later E);have HES:=bA (fun W (E:Below o.heap.size o W)=>FM (k:Int) z.now z.b z.cb z.ts W (TZ.out W E) hbe hbl hbz);have HDS:=bA (fun W (E:Below o.heap.size o W)=>BA c (xE k z.now z.ts) W (Ra hssz (by decide)) (HUT.out W E));have HHS:=bA (fun W a' c' (E:Below o.heap.size o W) (h:oB W a' z.ts)=>YA z.now a' z.b c' z.cb z.ts W h (TZ.out W E) (Ra hbl (by decide)) hbm2);have HTN:=bA (fun(t:ByteArray) (A B:List UInt8) (x y:UInt8) (h1:(xE k z.now z.ts).data.toList=A++x::B) (h2:t.data.toList=A++y::B) (h3:x≠y)=>mj hsok h1 h2 h3 c);unfold IJ iD at HDS;rw[hstd]at HDS;dsimp only at HDS;have hse:=MN hsne;clear hsok hsrg hsnw hstd hbe hbl hbz hbm2 Z z0 z1 TZ;generalize xE k z.now z.ts=J at *;go_wp2_with fail;refine(HES.out _ l.out).mono ?_;rintro e w11 ⟨rfl,d⟩;replace l:=bA (nA l.out d);clear d HES q0 q1 q2 q3 q4 k0 k1 k2 k3 k4 j KB9 hzc0 hzc1;have CC:=bA (C4.out.later l.out);obtain⟨Y,S,L,x3,x4,x5⟩:=CC.out.c6;go_wp2_with fail;refine(HDS.out _ l.out).mono ?_;rintro e w12 ⟨av2,cp2,rfl,V,d⟩;replace l:=bA (nA l.out d);have TO:=bA V.tens;clear d V HDS CC Y S L x3 x4 x5;go_upto_region 30 with fail;refine jF (C:=fun W=>Code.wp prog _ _ _ W) ?_;intro O hb13 SB hz13;clear hz13;replace l:=bA (nA l.out hb13);replace TO:=bA (TO.out.later hb13);have SB9:=bA SB;clear hb13 SB;generalize w12.heap.size=SX at *;have HK:=bA (fun D (h:Below O.heap.size O D)=>(show(D.cell? ⟨SX,0,none⟩=some (.int .i64 z.now)/\D.cell? ⟨SX,1,none⟩=some (.slice av2 z.ts.length cp2))/\D.cell? ⟨g,k*2,none⟩=some (.int .i64 z.now)/\D.cell? ⟨g,k*2+1,none⟩=some (.slice z.b z.ts.length z.cb) from⟨(SB9.out.later h).c2,((nA l.out h).cell hgz).trans HZC.out.1,((nA l.out h).cell hgz).trans HZC.out.2⟩));obtain⟨⟨s0,s1⟩,z0,z1⟩:=HK.out O (Below.refl _ _);go_cut [181] (fun v wx=>v=.bool false/\Below O.heap.size O wx)
   case first=>as_aux_lemma=>
    go_region_held3 (fun D=>(D.cell? ⟨SX,0,none⟩=some (.int .i64 z.now)/\D.cell? ⟨SX,1,none⟩=some (.slice av2 z.ts.length cp2))/\D.cell? ⟨g,k*2,none⟩=some (.int .i64 z.now)/\D.cell? ⟨g,k*2+1,none⟩=some (.slice z.b z.ts.length z.cb))
     (first|with_reducible exact HK.out _ ((Below.refl _ _).drew)|with_reducible exact HK.out _ r1)
     (first|(go_at_call 15;refine(HHS.out _ _ _ (nA l.out ((Below.refl _ _).drew)) (TO.out.later ((Below.refl _ _).drew))).mono ?_;rintro e u1 ⟨rfl,d⟩;have r1:Below O.heap.size O u1:=(by with_reducible exact nA ((Below.refl _ _).drew) d)))
    all_goals(go_wp2_with fail;go_meet)
    all_goals with_reducible exact⟨rfl,r1⟩
   obtain⟨rfl,hcut⟩:=hcut;have B6:=bA (nA l.out hcut);clear hcut s0 s1 z0 z1 HK SB9 TO HHS l HZC;rename World=>w14;have HUB:=bA (fun W (E:Below o.heap.size o W)=>HBB.out.up (nA B4.out E) (nA B4.out E).size);go_wp2_with fail;refine(jk _ _ b m cm 256 k w14 (HUB.out _ B6.out) (by omega) (by omega) (by omega) (by omega)).mono ?_;rintro e R ⟨v1,hv1,rfl,rfl⟩;have hs0:¬((J.size:Int)=0):=by omega
   have hs1:(0:Int)<(J.size:Int):=by omega
   have hat:v1 % J.size<J.size:=Nat.mod_lt _ (by omega);have hmd:(v1:Int) % (J.size:Int)=((v1 % J.size:Nat):Int):=by push_cast;rfl
   go_upto_region 33 with fail;rw[hmd];clear hmd;generalize v1 % J.size=p at *;have ha1:(p:Int)<(J.size:Int):=by omega
   have ha2:(p:Int)<=(J.size:Int):=by omega
   have ha3:(p:Int)+1<=(J.size:Int):=by omega
   have ha4:(0:Int)<=(p:Int)+1:=by omega
   have ha5:IntKind.i64.wrap ((p:Int)+1)=(p:Int)+1:=by rw[IntKind.wrap_i64];omega
   have hk5:IntKind.i64.wrap ((k:Int)+1)=(k:Int)+1:=by rw[IntKind.wrap_i64];omega
   have HPK:Hid (∀W,Below o.heap.size o W->Calls prog 16 #[.slice b m cm,.int .i64 ((k:Int)+1),.int .i64 255] W fun e D=>∃v:Nat,v<255/\e=.returned (.int .i64 (v:Nat))/\D=W):=fun W E=>by
    have:=jk _ _ b m cm 255 (k+1) W (HUB.out _ E) (by omega) (by omega) (by omega) (by omega);push_cast at this;exact this
   have HCV:=bA (show ∀X:Int,(convert 22 9 (.slice (some ⟨R.heap.size,0,none⟩) 1 1)).run prog (R.alloc (.cells #[.int .u8 X] 5)).drew=.ok (.string (strOfNums [X])) (R.alloc (.cells #[.int .u8 X] 5)).drew from fun X=>AN (B:=0) (ys:=[X]) ⟨by simp,.inr ⟨R.heap.size,1,#[.int .u8 X],rfl,La _,heap_alloc_new R _,Ka _,by simp[maxLen],by simp,by simp⟩⟩);go_cut [24] (fun v wx=>∃t,v=.string t/\t.size<=1048576/\vR c t=(0,0,[],false)/\Below R.heap.size R wx)
   case first=>
    rw[show Op.convert 22 9 (Operand.tmp 201)=cvC from rfl];have hop:cvC=Op.convert 22 9 (Operand.tmp 201):=rfl;obtain⟨A1,hA1⟩:∃A,J.extract 0 p=A:=⟨_,rfl⟩
    obtain⟨A3,hA3⟩:∃A,J.extract (p+1) J.size=A:=⟨_,rfl⟩
    have hx1:A1.size<=1048576:=by rw[<-hA1,Hd];omega
    have hx3:A3.size<=1048576:=by rw[<-hA3,Hd];omega
    go_region_held3 (fun D=>True)
     (first|exact trivial)
     (first|(go_at_call 16;refine(HPK.out _ (nA B6.out ((Below.refl _ _).drew))).mono ?_;rintro e u1 ⟨L,hx2,rfl,rfl⟩;have hc5:IntKind.i64.wrap (1+(L:Int))=1+(L:Int):=(by rw[IntKind.wrap_i64];omega);have hc6:IntKind.u8.wrap (1+(L:Int))=1+(L:Int):=(by simp only[IntKind.wrap,IntKind.bits,IntKind.signed];simp;omega);have hcx:=HCV.out (bits .xor .u8 (J[p].toNat:Int) (1+(L:Int)));have hUz:(strOfNums [bits .xor .u8 (J[p].toNat:Int) (1+(L:Int))]).size<=1:=(Nat.le_of_eq (strOfNums_size _));obtain⟨U,hU⟩:∃U,strOfNums [bits .xor .u8 (J[p].toNat:Int) (1+(L:Int))]=U:=⟨_,rfl⟩;rw[hU]at hcx hUz;have HU9:=bA hU;clear hU;have m1:¬(9223372036854775807<A1.size+U.size):=(by omega);have m2:¬(9223372036854775807<A1.size+U.size+A3.size):=(by omega)))
    all_goals(go_wp2_with fail;go_meet)
    all_goals
     obtain⟨y,y1,y2,y3,y4⟩:=ii (s:=J) (i:=p) (x:=1+L) (by omega) (by omega) (by omega);push_cast at y3 y4;rw[hA1,hA3,HU9.out]at y3 y4;exact⟨_,rfl,by omega,HTN.out _ _ _ _ _ y2 y3 y1,(cA _ _).drew⟩
   obtain⟨tt,rfl,htz,htd,hcut⟩:=hcut;have B7:=bA (nA B6.out hcut);rename World=>w16;have CC:=bA (C4.out.later B7.out);have HDT:=bA (BA c tt w16 htz (HUT.out _ B7.out));unfold IJ iD at HDT;rw[htd]at HDT;dsimp only at HDT;clear hcut B6 htz htd HUB HPK HTN;obtain⟨Y,S,L,x3,x4,x5⟩:=CC.out.c6;go_wp2_with fail;refine HDT.out.mono ?_;rintro e w17 ⟨av3,cp3,rfl,V,d⟩;have B8:=bA (nA B7.out d);clear V d HDT CC B7 Y S L x3 x4 x5;go_wp2;exact⟨⟨k+1,by omega,by go_num,B8.out⟩,by simp[intOf];omega⟩
  ·have hlt':¬(k:Int)<(qs.length:Nat):=by omega
   go_wp2;go_ret;exact⟨rfl,nA B4.out HB.out⟩
