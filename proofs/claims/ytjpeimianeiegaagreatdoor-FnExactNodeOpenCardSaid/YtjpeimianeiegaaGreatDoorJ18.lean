import Derived.Test.YtjpeimianeiegaaGreatDoorJ14
set_option maxRecDepth 100000
set_option maxHeartbeats 8000000
namespace Go.Proofs.YtjpeimianeiegaaGreatDoor
open Go.RowKit Tryz
def aDy (a:List eA):Prop:=∀i (h:i<a.length),a[i].name.size<=1000000000/\a[i].m9.length<=2000000/\a[i].s9.length<=2000000/\(∀j (b:j<a[i].m9.length),a[i].m9[j].s.size<=1000000000)/\(∀j (b:j<a[i].s9.length),a[i].s9[j].s.size<=1000000000)
theorem aEq (x b a:Int):uA x b a=decide (b<=x/\x<=a):=by
 unfold uA;by_cases c:b<=x<;>by_cases d:x<=a<;>simp[c,d]
theorem OH (a:List eA) (k:Nat):(aC (a.take k)).size<=(aC a).size:=by
 have:=aI (a.take k) (a.drop k);rw[Xa]at this;rw[this,Ia];omega
def aNd:Op:=Op.convert 9 160 (Operand.tmp 26)
structure PE (w W:World) (BX:Nat) (TC:Array Value) (u:Value) (st:ByteArray):Prop where
 R:iL W w.heap.size u st
 N:u.ownBlock≠some BX
 X:lA W BX TC 107
 B:Below w.heap.size w W
section
variable {w W W':World} {BX:Nat} {TC:Array Value} {u v:Value} {st tx:ByteArray}
theorem PE.later (h:PE w W BX TC u st) (a:Below W.heap.size W W'):PE w W' BX TC u st:=⟨h.R.later a,h.N,h.X.later a,pA h.B a⟩
theorem WW (h:iL W w.heap.size u st):u.ownBlock≠some W.heap.size:=by
 obtain⟨g,a,-,b⟩:=h.lt;rw[a];exact fun e=>by have:=Qc e;omega
theorem PE.fresh (h:PE w W BX TC u st):u.ownBlock≠some W.heap.size:=WW h.R
theorem PE.app (h:PE w W BX TC u st) (f:iL W' w.heap.size v (st++tx)) (c:∀k,k<W.heap.size->u.ownBlock≠some k->W'.heap[k]?=W.heap[k]?) (b:v.ownBlock=u.ownBlock\/v.ownBlock=some W.heap.size) (a:Below w.heap.size W W'):PE w W' BX TC v (st++tx):=by
 have d:=aA h.X;refine⟨f,?_,(c BX d h.N).trans h.X,h.B.trans a⟩;rcases b with e|e
 ·rw[e];exact h.N
 ·rw[e];exact fun e=>by have:=Qc e;omega
end
theorem aHq {a:List fA} {k:Nat} {st b:ByteArray} (h:k<a.length) (m:GF a[k].n) (f:a[k].s.size<=65535) (g:st=b++dC (a.take k)) (o:∀j (h:j<a.length),j<k->a[j].s.size<=65535):∃c d:ByteArray,Hid (∀W,Calls prog 87 #[.string a[k].s] W fun e i=>e=.returned (.string c)/\Below W.heap.size W i)/\Hid (∀W,Calls prog 85 #[.int .i64 8,.int .i64 a[k].n] W fun e i=>e=.returned (.string d)/\Below W.heap.size W i)/\Hid ((c++d).size<=70000)/\¬(9223372036854775807<c.size+d.size)/\Hid (st++(c++d)=b++dC (a.take (k+1))/\∀j (h:j<a.length),j<k+1->a[j].s.size<=65535)/\¬(a[k].s.size:Int) > 65535:=by
 have q:=jK a[k].s;have r:=bB 8 a[k].n;refine⟨_,_,fun W=>bY a[k].s W (by omega),fun W=>aE 8 a[k].n W (by omega) m.1 m.2,bA (by rw[Ia];omega),by omega,⟨by rw[OD a k h,g,xQ,Ob],fun j p t=>?_⟩,by omega⟩;rcases Ac j k with l|l
 ·exact o j p l
 ·obtain rfl:j=k:=by omega
  exact f
theorem ob (d f:Int) (a:Option Addr) (P:Nat) (c:List eA) (w:World) (hf:eC w a c) (hB:aDy c) (hR:yz c) (hl:GF d) (hno:GF f) (hlen:c.length<=2000000) (hz:(aC c).size<=100000000):
 Calls prog 48 #[.int .i64 d,.agg #[.int .i64 f,.slice a c.length P]] w fun e g=>e=.returned (.string (yI d f c))/\Below w.heap.size w g:=by
 have HW1:Hid (∀W,Calls prog 41 #[.int .i64 d,.int .i64 0,.int .i64 1000000000000000] W fun e g=>e=.returned (.bool (decide (0<=d/\d<=1000000000000000)))/\g=W):=fun W=>by have:=fD d 0 1000000000000000 W;rw[aEq]at this;exact this
 by_cases c1:¬(0<=d/\d<=1000000000000000)
 ·have E:Hid (yI d f c=ByteArray.empty):=FG fun h=>c1 ⟨h.1,h.2.1⟩;rw[E.out];rw[show decide (0<=d/\d<=1000000000000000)=false from Mb c1]at HW1;clear hf hB c1 hR hl hno;go_enter func48,ntmps48;go_wp2_with fail;refine(HW1.out _).mono ?_;rintro e w1 ⟨rfl,hw⟩;replace hw:=hw.symm;subst hw;go_wp2;go_ret;exact⟨rfl,cA _ _⟩
 replace c1:=Classical.not_not.1 c1;rw[Rb c1]at HW1;have HF:Hid (eC w a c):=hf;have HB:Hid (aDy c):=hB;have HR:Hid (yz c):=hR;have HU1:Hid (∀W,Calls prog 85 #[.int .i64 8,.int .i64 d] W fun e g=>e=.returned (.string (aB 8 d))/\Below W.heap.size W g):=fun W=>aE 8 d W (by omega) hl.1 hl.2;have HU2:Hid (∀W,Calls prog 85 #[.int .i64 8,.int .i64 f] W fun e g=>e=.returned (.string (aB 8 f))/\Below W.heap.size W g):=fun W=>aE 8 f W (by omega) hno.1 hno.2;have HU3:Hid (∀W,Calls prog 85 #[.int .i64 4,.int .i64 (c.length:Nat)] W fun e g=>e=.returned (.string (aB 4 (c.length:Nat)))/\Below W.heap.size W g):=fun W=>aE 4 (c.length:Nat) W (by omega) (by omega) (by omega);have hz1:=bB 8 d;have hz2:=bB 8 f;have hz3:=bB 4 (c.length:Nat);have hzx:(pI d f c).size=24+(aC c).size:=by unfold pI;rw[Ia,FH]
 have HX:Hid (pI d f c=ckB++aB 8 d++aB 8 f++aB 4 (c.length:Nat)++aC c):=rfl;have HOK:Hid ((∀i (h:i<c.length),sH c[i])->yI d f c=pI d f c++aB 4 (kH (pI d f c):Nat)):=fun h=>MV ⟨c1.1,c1.2,h⟩;have HNO:Hid (∀k (h:k<c.length),¬sH c[k]->yI d f c=ByteArray.empty):=fun k h h2=>yf h h2 d f;have HCR:Hid (∀W,Calls prog 88 #[.string (pI d f c)] W fun e g=>e=.returned (.int .i64 (kH (pI d f c):Nat))/\g=W):=fun W=>LC _ W (by unfold maxLen;omega);have HU4:Hid (∀W,Calls prog 85 #[.int .i64 4,.int .i64 (kH (pI d f c):Nat)] W fun e g=>e=.returned (.string (aB 4 (kH (pI d f c):Nat)))/\Below W.heap.size W g):=fun W=>by
  have:=YR (pI d f c);exact aE 4 _ W (by omega) (by omega) (by omega)
 have hz4:=bB 4 (kH (pI d f c):Nat);generalize aB 4 (kH (pI d f c):Nat)=N4 at *;generalize kH (pI d f c)=CR at *;generalize pI d f c=SX at *;generalize yI d f c=SB at *;generalize aB 8 d=N1 at *;generalize aB 8 f=N2 at *;generalize aB 4 (c.length:Nat)=N3 at *;have hzd:(ckB++N1++N2++N3).size=24:=by rw[Ia,Ia,Ia,hz1,hz2,hz3];rfl
 obtain⟨CV,CN,hcv,hcn⟩:=fy (ckB++N1++N2++N3) (by omega);have HCN:Hid (∀w,iL (CN w) w.heap.size (CV w) (ckB++N1++N2++N3)/\Below w.heap.size w (CN w)):=hcn;unfold ckB at hcv;obtain⟨HD,hHD⟩:∃H:ByteArray,H=ckB++N1++N2++N3:=⟨_,rfl⟩
 rw[<-hHD]at HCN HX hzd;clear hf hB hR hl hno hcn hHD;go_enter func48,ntmps48;go_wp2_with fail;refine(HW1.out _).mono ?_;rintro e w1 ⟨rfl,hw⟩;replace hw:=hw.symm;subst hw;clear HW1;go_upto_region 3 with fail;have X6:Hid (lA (w.alloc (.cells #[.int .i64 f,.slice a c.length P] 35)) w.heap.size #[.int .i64 f,.slice a c.length P] 35):=heap_alloc_new _ _;have B0:Hid (Below w.heap.size w (w.alloc (.cells #[.int .i64 f,.slice a c.length P] 35))):=cA _ _;generalize w.alloc (.cells #[.int .i64 f,.slice a c.length P] 35)=w0 at *;have O:Hid (∀g,Below w0.heap.size w0 g->g.cell? ⟨w.heap.size,0,none⟩=some (.int .i64 f)/\g.cell? ⟨w.heap.size,1,none⟩=some (.slice a c.length P)):=fun g h=>by
  have q:=X6.out.later h;exact⟨q.cell 0,q.cell 1⟩
 obtain⟨x0,x1⟩:=O.out w0 (Below.refl _ _);go_cut [5] (fun s wx=>iL wx w0.heap.size s HD/\Below w0.heap.size w0 wx)
 case first=>
  rw[show Op.convert 9 160 (Operand.tmp 26)=aNd from rfl];have hop:aNd=Op.convert 9 160 (Operand.tmp 26):=rfl;go_region_held3 (fun g=>g.cell? ⟨w.heap.size,0,none⟩=some (.int .i64 f)/\g.cell? ⟨w.heap.size,1,none⟩=some (.slice a c.length P))
   (first|go_keep|exact O.out _ (pA k4 (HCN.out _).2)|exact O.out _ k4|exact O.out _ k3|exact O.out _ m)
   (first
    |(go_at_call 85;(fail_if_success (have q:=m));refine(HU1.out _).mono ?_;rintro e w2 ⟨rfl,G⟩;have m:Below w0.heap.size w0 w2:=(by exact pA (Below.refl _ _).drew G))
    |(go_at_call 85;have q:=m;clear q;(fail_if_success (have q:=k3));refine(HU2.out _).mono ?_;rintro e w3 ⟨rfl,hb3⟩;have k3:Below w0.heap.size w0 w3:=(by exact pA m hb3))
    |(go_at_call 85;have q:=k3;clear q;refine(HU3.out _).mono ?_;rintro e w4 ⟨rfl,hb4⟩;have k4:Below w0.heap.size w0 w4:=(by exact pA k3 hb4)))
  all_goals(go_wp2_with fail;go_meet)
  all_goals exact⟨(HCN.out _).1.mono k4.size,pA k4 (HCN.out _).2⟩
 obtain⟨hrow0,hbx⟩:=hcut;rename World=>w5;have B5:Hid (Below w.heap.size w w5):=pA B0.out hbx;have HBL:Hid (iL w5 w.heap.size u5 HD):=hrow0.mono B0.out.size;have HK5:Hid (w5.cell? ⟨w.heap.size,1,none⟩=some (.slice a c.length P)):=(O.out w5 hbx).2;have y1:=HK5.out;clear x0 x1 O X6 hrow0 hbx B0 HU1 HU2 HU3 HK5 HCN hcv;go_wp2;go_loopw [5,31] (fun M i wr=>∃(k:Nat) (st:ByteArray),k<=c.length/\i=.int .i64 k/\st.size<=100000024/\Hid (st=HD++aC (c.take k))/\Hid (∀j (h:j<c.length),j<k->sH c[j])/\Hid (iL wr w.heap.size M st)/\Below w.heap.size w wr) (fun _ i _=>c.length-(intOf i).toNat)
 case atStart=>exact⟨0,HD,Ha _,rfl,by omega,bA (by simp[aC]),fun j _ h=>absurd h (by omega),HBL.out,B5.out⟩
 case round=>
  obtain⟨k,st,hk,rfl,Z,D,l,K,x⟩:=hrel;by_cases T:k<c.length
  ·obtain⟨b,o,a1,Q,a2,S,rfl,hb,e0,e1,e2,e3,p1,p2⟩:=HF.out.at T;obtain⟨q1,q2,q3,q4,q5⟩:=HB.out k T;obtain⟨r1,r2,r3⟩:=HR.out k T;have d0:wr.cell? ⟨b,o+k*4,none⟩=some (.string c[k].name):=(x.cell hb).trans e0;have d1:wr.cell? ⟨b,o+k*4+1,none⟩=some (.int .i64 c[k].l9):=(x.cell hb).trans e1;have d2:wr.cell? ⟨b,o+k*4+2,none⟩=some (.slice a1 c[k].m9.length Q):=(x.cell hb).trans e2;have d3:wr.cell? ⟨b,o+k*4+3,none⟩=some (.slice a2 c[k].s9.length S):=(x.cell hb).trans e3;have P1:Hid (vA w a1 c[k].m9):=p1;have P2:Hid (vA w a2 c[k].s9):=p2;have Q4:Hid (∀j (h':j<c[k].m9.length),c[k].m9[j].s.size<=1000000000):=q4;have Q5:Hid (∀j (h':j<c[k].s9.length),c[k].s9[j].s.size<=1000000000):=q5;have R2:Hid (uZ c[k].m9):=r2;have R3:Hid (uZ c[k].s9):=r3;have HS8:Hid (∀W,Calls prog 86 #[.string c[k].name] W fun e g=>e=.returned (.string (xV c[k].name))/\Below W.heap.size W g):=fun W=>BP c[k].name W q1;have HN8:Hid (∀W,Calls prog 85 #[.int .i64 8,.int .i64 c[k].l9] W fun e g=>e=.returned (.string (aB 8 c[k].l9))/\Below W.heap.size W g):=fun W=>aE 8 _ W (by omega) r1.1 r1.2;have HN4:Hid (∀W,Calls prog 85 #[.int .i64 4,.int .i64 (c[k].m9.length:Nat)] W fun e g=>e=.returned (.string (aB 4 (c[k].m9.length:Nat)))/\Below W.heap.size W g):=fun W=>aE 4 _ W (by omega) (by omega) (by omega);have HN5:Hid (∀W,Calls prog 85 #[.int .i64 4,.int .i64 (c[k].s9.length:Nat)] W fun e g=>e=.returned (.string (aB 4 (c[k].s9.length:Nat)))/\Below W.heap.size W g):=fun W=>aE 4 _ W (by omega) (by omega) (by omega);have hq1:=yO c[k].name;have hq2:=bB 8 c[k].l9;have hq3:=bB 4 (c[k].m9.length:Nat);have hq4:=bB 4 (c[k].s9.length:Nat);have HEQ:Hid (aC (c.take (k+1))=aC (c.take k)++(xV c[k].name++aB 8 c[k].l9++aB 4 (c[k].m9.length:Nat)++dC c[k].m9++aB 4 (c[k].s9.length:Nat)++dC c[k].s9)):=by show _=_;rw[AH c k T];rfl
   have HLE:Hid ((HD++aC (c.take (k+1))).size<=100000024):=by show _<=_;have:=OH c (k+1);rw[Ia];omega
   have HA2:Hid (c[k].name.size<=255->NG c[k].m9->NG c[k].s9->∀j (h:j<c.length),j<k+1->sH c[j]):=fun z1 z2 z3 j h hj=>by
    rcases Ac j k with h1|h1
    ·exact l.out j h h1
    ·obtain rfl:j=k:=by omega
     exact⟨z1,z2,z3⟩
   have HNN:Hid (¬c[k].name.size<=255->SB=ByteArray.empty):=fun z=>HNO.out k T fun hh=>z hh.1;have HNM:Hid (∀j (h:j<c[k].m9.length),¬c[k].m9[j].s.size<=65535->SB=ByteArray.empty):=fun j h z=>HNO.out k T fun hh=>z (hh.2.1 j h);have HNS:Hid (∀j (h:j<c[k].s9.length),¬c[k].s9[j].s.size<=65535->SB=ByteArray.empty):=fun j h z=>HNO.out k T fun hh=>z (hh.2.2 j h);have hnb:¬b=wr.heap.size:=by have:=x.size;omega
   clear e0 e1 e2 e3 p1 p2 q4 q5 r1 r2 r3 l HNO;generalize xV c[k].name=S1 at *;generalize aB 8 c[k].l9=S2 at *;generalize aB 4 (c[k].m9.length:Nat)=S3 at *;generalize aB 4 (c[k].s9.length:Nat)=S4 at *;generalize c[k].name=nm at *;generalize c[k].l9=li at *;generalize c[k].m9=F at *;generalize c[k].s9=ss at *;by_cases hok:nm.size<=255
   ·have hgt:¬(nm.size:Int) > 255:=by omega
    have Y:Hid (PE w (wr.alloc (.cells #[.string nm,.int .i64 li,.slice a1 F.length Q,.slice a2 ss.length S] 107)) wr.heap.size #[.string nm,.int .i64 li,.slice a1 F.length Q,.slice a2 ss.length S] u5 st):=⟨K.out.later (cA _ _),WW K.out,lA.new _ _ _,pA x (cA _ _)⟩
    have hz:S1.size+S2.size+S3.size<=1000000013:=by omega
    have HQ:=bA (⟨hq1,hq2,hq3,hq4⟩:_/\_/\_/\_);have n1:¬(9223372036854775807<S1.size+S2.size):=by omega
    have n2:¬(9223372036854775807<S1.size+S2.size+S3.size):=by omega
    have HZ:=bA hz;clear K hq1 hq2 hq3 hq4 hz;go_upto_region 9 with fail;generalize wr.alloc (.cells #[.string nm,.int .i64 li,.slice a1 F.length Q,.slice a2 ss.length S] 107)=W at *;have hww:=Y.out.B.size;clear hnb d0 d1 d2 d3 hb x;generalize wr.heap.size=BX at *;clear wr;have O:=bA (fun g (h:Below W.heap.size W g)=>(Y.out.X.later h).c4);obtain⟨x0,x1,x2,x3⟩:=Y.out.X.c4;go_cut [5] (fun M wx=>PE w wx BX #[.string nm,.int .i64 li,.slice a1 F.length Q,.slice a2 ss.length S] M (st++(S1++S2++S3)))
    case first=>
     go_region_held3 (fun g=>g.cell? ⟨BX,0,none⟩=some (.string nm)/\g.cell? ⟨BX,1,none⟩=some (.int .i64 li)/\g.cell? ⟨BX,2,none⟩=some (.slice a1 F.length Q)/\g.cell? ⟨BX,3,none⟩=some (.slice a2 ss.length S))
      (first|go_keep|exact k5|exact O.out _ k3|exact O.out _ m|exact O.out _ k1)
      (first
       |(go_at_call 86;refine(HS8.out _).mono ?_;rintro e w1 ⟨rfl,hb1⟩;have k1:Below W.heap.size W w1:=pA (Below.refl _ _).drew hb1)
       |(go_at_call 85;(fail_if_success (have q:=m));refine(HN8.out _).mono ?_;rintro e w2 ⟨rfl,G⟩;have m:Below W.heap.size W w2:=pA k1 G)
       |(go_at_call 85;have q:=m;clear q;refine(HN4.out _).mono ?_;rintro e w3 ⟨rfl,hb3⟩;have k3:Below W.heap.size W w3:=pA m hb3;have hz3:=k3.size)
       |(have q:=k3;clear q;refine pR _ (by rfl) _ _ (by rfl) w.heap.size _ st (S1++S2++S3) (by rfl) (Y.out.later k3).R (by rfl) (by omega) (by have:=HZ.out;rw[Ia,Ia];omega) ?_;intro v5 w5 p I A t L;have V:=bA ((Y.out.later k3).app p A t I);have k5:=V.out.X.c4))
     all_goals(go_wp2_with fail;go_meet)
     all_goals exact V.out
    rename World=>w5;have hs1:(st++(S1++S2++S3)).size<=1200000000:=by have:=HZ.out;rw[Ia,Ia,Ia];omega
    have HQ1:Hid (st++(S1++S2++S3)=HD++aC (c.take k)++(S1++S2++S3)):=bA (by rw[D.out]);have PP:=bA hcut;obtain⟨-,-,y2,y3⟩:=hcut.X.c4;clear hcut Y O x0 x1 x2 x3 n1 n2 D Z;generalize st++(S1++S2++S3)=st1 at *;obtain⟨TC,hTC⟩:∃TC:Array Value,TC=#[.string nm,.int .i64 li,.slice a1 F.length Q,.slice a2 ss.length S]:=⟨_,rfl⟩
    rw[<-hTC]at PP;have HTC:=bA hTC;clear hTC;go_upto_block 2 with fail;clear y2 y3;go_cut [5] (fun M wx=>∃st,st=st1++dC F/\(∀j (h:j<F.length),F[j].s.size<=65535)/\PE w wx BX TC M st/\st.size<=150000000000)
    case first=>
     go_wp2_with fail;go_loopw [5,56] (fun M i wr=>∃(m:Nat) (st:ByteArray),m<=F.length/\i=.int .i64 m/\st.size<=1200000000+m*70000/\Hid (st=st1++dC (F.take m))/\Hid (∀j (h:j<F.length),j<m->F[j].s.size<=65535)/\Hid (PE w wr BX TC M st)) (fun _ i _=>F.length-(intOf i).toNat)
     case atStart=>exact⟨0,st1,Ha _,rfl,by omega,bA (by simp[dC]),fun j _ h=>absurd h (by omega),PP.out⟩
     case round=>
      obtain⟨m,st,hk2,rfl,Z,D,l,J⟩:=hrel;by_cases r:m<F.length
      ·obtain⟨b2,o2,rfl,G,f0,f1⟩:=(P1.out.later J.out.B).at r;have hn1:=Q4.out m r;have U:=R2.out m r;have hnb:¬b2=wr.heap.size:=by omega
       by_cases y:F[m].s.size<=65535
       ·obtain⟨U3,U4,HS16,HM8,HZ,m1,E2,hgt2⟩:=aHq r U y D.out l.out;clear y l U;generalize F[m].s=tx at *;generalize F[m].n=nu at *;have HX:=bA (lA.new wr #[.string tx,.int .i64 nu] 111);have hg2:=J.out.fresh;replace J:=bA (J.out.later (cA wr (.cells #[.string tx,.int .i64 nu] 111)));go_upto_region 15 with fail;generalize wr.alloc (.cells #[.string tx,.int .i64 nu] 111)=W at *;have hww:=J.out.B.size;have hW:=aA HX.out;clear hnb G f0 f1;generalize wr.heap.size=BY at *;clear wr;have O:=bA (fun g (h:Below W.heap.size W g)=>(HX.out.later h).c2);obtain⟨x0,x1⟩:=HX.out.c2;go_region_held3 (fun g=>g.cell? ⟨BY,0,none⟩=some (.string tx)/\g.cell? ⟨BY,1,none⟩=some (.int .i64 nu))
         (first|go_keep|exact k5|exact O.out _ C|exact O.out _ k1)
         (first
          |(go_at_call 87;refine(HS16.out _).mono ?_;rintro e w1 ⟨rfl,hb1⟩;have k1:Below W.heap.size W w1:=pA (Below.refl _ _).drew hb1)
          |(go_at_call 85;refine(HM8.out _).mono ?_;rintro e w2 ⟨rfl,G⟩;have C:Below W.heap.size W w2:=pA k1 G;have hz2:=C.size)
          |(have q:=C;clear q;refine pR _ (by rfl) _ _ (by rfl) w.heap.size _ st (U3++U4) (by rfl) (J.out.later C).R (by rfl) (by omega) (by have:=HZ.out;omega) ?_;intro v5 w5 p I A t L;have k5:=lA.c2 ((A BY (by omega) hg2).trans (HX.out.later C));have V:=bA ((J.out.later C).app p A t I)))
        have hst5:(st++(U3++U4)).size<=1200000000+(m+1)*70000:=by have:=HZ.out;rw[Ia];omega
        clear p I A k5 t L m1 Z;generalize st++(U3++U4)=st5 at *;go_wp2;exact⟨⟨m+1,st5,by omega,by go_num,hst5,E2.out.1,E2.out.2,V.out⟩,by simp[intOf];omega⟩
       ·have E:Hid (SB=ByteArray.empty):=HNM.out m r y;have hgt2:(F[m].s.size:Int) > 65535:=by omega
        generalize F[m].s=tx at *;generalize F[m].n=nu at *;clear y l U;go_wp2;go_ret;exact⟨by rw[E.out];rfl,pA J.out.B (cA _ _)⟩
      ·have HA:=bA (fun j (h:j<F.length)=>l.out j h (by omega));have E:Hid (st=st1++dC F):=bA (by rw[D.out,Pa (by omega)]);have hs9:st.size<=150000000000:=by omega
       clear l D;go_wp2;go_meet;exact⟨st,E.out,HA.out,J.out,hs9⟩
    obtain⟨st2,hE,hA,hP,hz2⟩:=hcut;rename World=>w6;have HE1:=bA hE;have HA1:=bA hA;have P6:=bA hP;have X6:=bA hP.X;rw[HTC.out]at X6;obtain⟨-,-,-,y3⟩:=X6.out.c4;clear hE hA hP PP;go_wp2_with fail;refine(HN5.out _).mono ?_;rintro e w7 ⟨rfl,hb7⟩;replace P6:=bA (P6.out.later hb7);replace X6:=bA (X6.out.later hb7);have hw7:=P6.out.B.size;clear hb7 y3;go_wp2_with(at_builtin;refine MG _ rfl _ _ rfl w.heap.size _ st2 S4 rfl P6.out.R rfl hw7 (by have:=HQ.out.2.2.2;omega) ?_;intro v5 w8 p I A t L;have PP:=bA (P6.out.app p A t I);have X8:=bA ((A BX (aA P6.out.X) P6.out.N).trans X6.out);clear p I A t L;have y3:=lA.cell X8.out 3);have HE3:Hid (st2++S4=st1++dC F++S4):=bA (by rw[HE1.out]);have hs3':(st2++S4).size<=150000000004:=by have:=HQ.out.2.2.2;rw[Ia];omega
    clear HE1 hz2 P6 X6;generalize st2++S4=st3 at *;go_wp2;clear y3 X8;go_loopw [5,83] (fun M i wr=>∃(m:Nat) (st:ByteArray),m<=ss.length/\i=.int .i64 m/\st.size<=150000000004+m*70000/\Hid (st=st3++dC (ss.take m))/\Hid (∀j (h:j<ss.length),j<m->ss[j].s.size<=65535)/\Hid (PE w wr BX TC M st)) (fun _ i _=>ss.length-(intOf i).toNat)
    case atStart=>exact⟨0,st3,Ha _,rfl,by omega,bA (by simp[dC]),fun j _ h=>absurd h (by omega),PP.out⟩
    case round=>
     obtain⟨m,st,hk2,rfl,Z,D,l,J⟩:=hrel;by_cases r:m<ss.length
     ·obtain⟨b2,o2,rfl,G,f0,f1⟩:=(P2.out.later J.out.B).at r;have hn1:=Q5.out m r;have U:=R3.out m r;have hnb:¬b2=wr.heap.size:=by omega
      by_cases y:ss[m].s.size<=65535
      ·obtain⟨U3,U4,HS16,HM8,HZ,m1,E2,hgt2⟩:=aHq r U y D.out l.out;clear y l U;generalize ss[m].s=tx at *;generalize ss[m].n=nu at *;have HX:=bA (lA.new wr #[.string tx,.int .i64 nu] 113);have hg2:=J.out.fresh;replace J:=bA (J.out.later (cA wr (.cells #[.string tx,.int .i64 nu] 113)));go_upto_region 23 with fail;generalize wr.alloc (.cells #[.string tx,.int .i64 nu] 113)=W at *;have hww:=J.out.B.size;have hW:=aA HX.out;clear hnb G f0 f1;generalize wr.heap.size=BY at *;clear wr;have O:=bA (fun g (h:Below W.heap.size W g)=>(HX.out.later h).c2);obtain⟨x0,x1⟩:=HX.out.c2;go_region_held3 (fun g=>g.cell? ⟨BY,0,none⟩=some (.string tx)/\g.cell? ⟨BY,1,none⟩=some (.int .i64 nu))
        (first|go_keep|exact k5|exact O.out _ C|exact O.out _ k1)
        (first
         |(go_at_call 87;refine(HS16.out _).mono ?_;rintro e w1 ⟨rfl,hb1⟩;have k1:Below W.heap.size W w1:=pA (Below.refl _ _).drew hb1)
         |(go_at_call 85;refine(HM8.out _).mono ?_;rintro e w2 ⟨rfl,G⟩;have C:Below W.heap.size W w2:=pA k1 G;have hz2:=C.size)
         |(have q:=C;clear q;refine pR _ (by rfl) _ _ (by rfl) w.heap.size _ st (U3++U4) (by rfl) (J.out.later C).R (by rfl) (by omega) (by have:=HZ.out;omega) ?_;intro v5 w5 p I A t L;have k5:=lA.c2 ((A BY (by omega) hg2).trans (HX.out.later C));have V:=bA ((J.out.later C).app p A t I)))
       have hst5:(st++(U3++U4)).size<=150000000004+(m+1)*70000:=by have:=HZ.out;rw[Ia];omega
       clear p I A k5 t L m1 Z;generalize st++(U3++U4)=st5 at *;go_wp2;exact⟨⟨m+1,st5,by omega,by go_num,hst5,E2.out.1,E2.out.2,V.out⟩,by simp[intOf];omega⟩
      ·have E:Hid (SB=ByteArray.empty):=HNS.out m r y;have hgt2:(ss[m].s.size:Int) > 65535:=by omega
       generalize ss[m].s=tx at *;generalize ss[m].n=nu at *;clear y l U;go_wp2;go_ret;exact⟨by rw[E.out];rfl,pA J.out.B (cA _ _)⟩
     ·have HA:=bA (fun j (h:j<ss.length)=>l.out j h (by omega));have E4:Hid (st=HD++aC (c.take (k+1))):=bA (by rw[D.out,Pa (by omega),HE3.out,HQ1.out,HEQ.out];simp only[Ob]);have hst9:st.size<=100000024:=by rw[E4.out];exact HLE.out
      clear l D;go_wp2;exact⟨⟨k+1,st,by omega,by go_num,hst9,E4.out,HA2.out hok HA1.out HA.out,J.out.R,J.out.B⟩,by simp[intOf];omega⟩
   ·have E:Hid (SB=ByteArray.empty):=HNN.out hok;have hgt:(nm.size:Int) > 255:=by omega
    clear K;go_wp2;go_ret;exact⟨by rw[E.out];rfl,pA x (cA _ _)⟩
  ·have hall:∀i (h:i<c.length),sH c[i]:=fun j h=>l.out j h (by omega);have E2:Hid (st=SX):=by
    show _=_;rw[D.out,Pa (by omega),HX.out]
   have E3:Hid (SB=SX++N4):=HOK.out hall;have HBK:Hid (∀g,Below wr.heap.size wr g->(convert 160 9 u5).run prog g=.ok (.string SX) g):=fun g h=>by
    have:=aEk (K.out.later h);rw[E2.out]at this;exact this
   have n1:¬(9223372036854775807<SX.size+N4.size):=by omega
   clear K hall l D E2 Z hzx hz4;go_upto_region 26 with fail;go_region_held3 (fun g=>(convert 160 9 u5).run prog g=.ok (.string SX) g)
    (first|go_keep|exact HBK.out _ k4|exact HBK.out _ (Below.refl _ _).drew|exact HBK.out _ (Below.refl _ _))
    (first
     |(go_at_call 88;refine(HCR.out _).mono ?_;rintro e w3 ⟨rfl,hb3⟩;subst hb3;have k3:Below wr.heap.size wr wr.drew:=(Below.refl _ _).drew)
     |(go_at_call 85;refine(HU4.out _).mono ?_;rintro e w4 ⟨rfl,hb4⟩;have k4:Below wr.heap.size wr w4:=(by exact pA k3 hb4)))
   have B4:Hid (Below w.heap.size w w4):=pA x k4;go_wp2;go_ret;exact⟨by rw[E3.out];rfl,B4.out⟩
