import Derived.Test.YtflbidbilgndeaaGreatDoorJ05
import Derived.Deep.RegionHeld3
import Derived.Deep.DeepCutAuto
import Derived.Deep.CutBlock
set_option maxRecDepth 100000
set_option maxHeartbeats 8000000
namespace Go.Proofs.YtflbidbilgndeaaGreatDoor
open Go.RowKit Tryz
def aLs:Op:=Op.convert 9 22 (Operand.tmp 26)
structure PE(w W:World)(BX:Nat)(TC:Array Value)(u:Value)(st:jB):Prop where
 R:jN W w.1.size u st
 N:u.ownBlock≠some BX
 X:nB W BX TC 94
 B:uB w W
section
variable {w W W':World} {BX:Nat} {TC:Array Value} {u v:Value} {st tx:jB}
theorem PE.z(h:PE w W BX TC u st)(a:uB W W'):PE w W' BX TC u st:=⟨h.R.z a,h.N,h.X.z a,vB h.B a⟩
theorem YB(h:jN W w.1.size u st):u.ownBlock≠some W.1.size:=by
 obtain⟨g,a,-,b⟩:=h.lt;rw[a];exact λe=>by have:=Lc e;omega
theorem PE.fresh(h:PE w W BX TC u st):u.ownBlock≠some W.1.size:=YB h.R
theorem PE.app(h:PE w W BX TC u st)(f:jN W' w.1.size v (st++tx))(c:∀k,k<W.1.size->u.ownBlock≠some k->W'.heap[k]?=W.heap[k]?)(b:v.ownBlock=u.ownBlock\/v.ownBlock=some W.1.size)(a:Below w.1.size W W'):PE w W' BX TC v (st++tx):=by
 have d:=aB h.X;refine⟨f,?_,(c BX d h.N).trans h.X,h.B.trans a⟩;obtain e|e:=b;rw[e];exact h.N;rw[e];exact λe=>by have:=Lc e;omega
end
theorem aGp{a:List kB}{k:Nat}{st b:jB}(h:k<a.length)(m:wU a[k].n)(f:a[k].s.size<=65535)(g:st=b++mE (a.take k))(o:∀j(h:j<a.length),j<k->a[j].s.size<=65535):∃c d:jB,cB (∀W,dF 62 #[.string a[k].s] W (.string c))/\cB (∀W,dF 54 #[zA 8,zA a[k].n] W (.string d))/\cB ((c++d).size<=70000)/\¬(9223372036854775807<c.size+d.size)/\cB (st++(c++d)=b++mE (a.take (k+1))/\∀j(h:j<a.length),j<k+1->a[j].s.size<=65535)/\¬(a[k].s.size:Int) > 65535:=by
 have q:=iF a[k].s;have r:=gB 8 a[k].n;refine⟨_,_,λW=>rO a[k].s W (by omega),λW=>lD 8 a[k].n W (by omega) m.1 m.2,bB (by rw[Ka];omega),by omega,⟨by rw[PV a k h,g,NK,Wa],λj p t=>?_⟩,by omega⟩;rcases Gc j k with l|l;exact o j p l;obtain rfl:j=k:=by omega
 exact f
theorem mr(g l:Int)(a:Option Addr)(S:Nat)(f:List fB)(w:World)(hf:xC w a f)(hB:aCx f)(hR:TW f)(hl:wU g)(hno:wU l)(hlen:f.length<=2000000)(hz:(sE f).size<=100000000):
 Calls prog 102 #[.int .i64 g,.agg #[.int .i64 l,.slice a f.length S]] w λe m=>e=.returned (.string (rI g l f))/\Below w.1.size w m:=by
 have HW1:cB (∀W,Calls prog 91 #[.int .i64 g,.int .i64 0,.int .i64 1000000000000000] W λe m=>e=.returned (.bool (decide (0<=g/\g<=1000000000000000)))/\m=W):=λW=>by have:=dE g 0 1000000000000000 W;rw[OV]at this;exact this
 by_cases c1:¬(0<=g/\g<=1000000000000000)
 .have E:cB (rI g l f=ByteArray.empty):=OH λh=>c1 ⟨h.1,h.2.1⟩;rw[E.o];rw[show decide (0<=g/\g<=1000000000000000)=false from Ub c1]at HW1;clear hf hB c1 hR hl hno;go_enter func102,ntmps102;go_wp2_with fail;refine(HW1.o _).mono ?_;rintro e w1 ⟨rfl,hw⟩;replace hw:=hw.symm;subst hw;go_wp2;go_ret;exact⟨rfl,zB⟩
 replace c1:=Classical.not_not.1 c1;rw[Ac c1]at HW1;have HF:cB (xC w a f):=hf;have HB:cB (aCx f):=hB;have HR:cB (TW f):=hR;have HU1:cB (∀W,Calls prog 54 #[.int .i64 8,.int .i64 g] W λe m=>e=.returned (.string (pB 8 g))/\Below W.1.size W m):=λW=>lD 8 g W (by omega) hl.1 hl.2;have HU2:cB (∀W,Calls prog 54 #[.int .i64 8,.int .i64 l] W λe m=>e=.returned (.string (pB 8 l))/\Below W.1.size W m):=λW=>lD 8 l W (by omega) hno.1 hno.2;have HU3:cB (∀W,Calls prog 54 #[.int .i64 4,.int .i64 (f.length:Nat)] W λe m=>e=.returned (.string (pB 4 (f.length:Nat)))/\Below W.1.size W m):=λW=>lD 4 (f.length:Nat) W (by omega) (by omega) (by omega);have hz1:=gB 8 g;have hz2:=gB 8 l;have hz3:=gB 4 (f.length:Nat);have hzx:(qL g l f).size=24+(sE f).size:=by unfold qL;rw[Ka,IX]
 have HX:cB (qL g l f=yk++pB 8 g++pB 8 l++pB 4 (f.length:Nat)++sE f):=rfl;have HOK:cB ((∀i(h:i<f.length),cK f[i])->rI g l f=qL g l f++pB 4 (cJ (qL g l f):Nat)):=λh=>IW ⟨c1.1,c1.2,h⟩;have HNO:cB (∀k(h:k<f.length),¬cK f[k]->rI g l f=ByteArray.empty):=λk h h2=>wt h h2 g l;have HCR:cB (∀W,Calls prog 172 #[.string (qL g l f)] W λe m=>e=.returned (.int .i64 (cJ (qL g l f):Nat))/\m=W):=λW=>MQ _ W (by unfold maxLen;omega);have HU4:cB (∀W,Calls prog 54 #[.int .i64 4,.int .i64 (cJ (qL g l f):Nat)] W λe m=>e=.returned (.string (pB 4 (cJ (qL g l f):Nat)))/\Below W.1.size W m):=λW=>by
  have:=ZQ (qL g l f);exact lD 4 _ W (by omega) (by omega) (by omega)
 have hz4:=gB 4 (cJ (qL g l f):Nat);generalize pB 4 (cJ (qL g l f):Nat)=N4 at *;generalize cJ (qL g l f)=CR at *;generalize qL g l f=SX at *;generalize rI g l f=SB at *;generalize pB 8 g=N1 at *;generalize pB 8 l=N2 at *;generalize pB 4 (f.length:Nat)=N3 at *;have hzd:(yk++N1++N2++N3).size=24:=by rw[Ka,Ka,Ka,hz1,hz2,hz3];rfl
 obtain⟨CV,CN,hcv,hcn⟩:=GA (yk++N1++N2++N3) (by omega);have HCN:cB (∀w,jN (CN w) w.1.size (CV w) (yk++N1++N2++N3)/\Below w.1.size w (CN w)):=hcn;unfold yk at hcv;obtain⟨HD,hHD⟩:∃H:ByteArray,H=yk++N1++N2++N3:=⟨_,rfl⟩
 rw[<-hHD]at HCN HX hzd;clear hf hB hR hl hno hcn hHD;go_enter func102,ntmps102;go_wp2_with fail;refine(HW1.o _).mono ?_;rintro e w1 ⟨rfl,hw⟩;replace hw:=hw.symm;subst hw;clear HW1;go_upto_region 3 with fail;have X6:cB (nB (w.alloc (.cells #[.int .i64 l,.slice a f.length S] 40)) w.1.size #[.int .i64 l,.slice a f.length S] 40):=heap_alloc_new _ _;have B0:cB (Below w.1.size w (w.alloc (.cells #[.int .i64 l,.slice a f.length S] 40))):=zB;generalize w.alloc (.cells #[.int .i64 l,.slice a f.length S] 40)=w0 at *;have Q:cB (∀m,Below w0.1.size w0 m->m.cell? ⟨w.1.size,0,none⟩=some (.int .i64 l)/\m.cell? ⟨w.1.size,1,none⟩=some (.slice a f.length S)):=λm h=>by
  have q:=X6.o.z h;exact⟨q.cell 0,q.cell 1⟩
 obtain⟨x0,x1⟩:=Q.o w0 iD;go_cut [5] (λs wx=>jN wx w0.1.size s HD/\Below w0.1.size w0 wx)
 case first=>
  rw[show Op.convert 9 22 (Operand.tmp 26)=aLs from rfl];have hop:aLs=Op.convert 9 22 (Operand.tmp 26):=rfl;go_region_held3 (λm=>m.cell? ⟨w.1.size,0,none⟩=some (.int .i64 l)/\m.cell? ⟨w.1.size,1,none⟩=some (.slice a f.length S))
   (first|go_keep|exact Q.o _ (vB k4 (HCN.o _).2)|exact Q.o _ k4|exact Q.o _ k3|exact Q.o _ r)
   (first
    |(go_at_call 54;(fail_if_success (have q:=r));refine(HU1.o _).mono ?_;rintro e w2 ⟨rfl,J⟩;have r:Below w0.1.size w0 w2:=(by exact vB iD.drew J))
    |(go_at_call 54;have q:=r;clear q;(fail_if_success (have q:=k3));refine(HU2.o _).mono ?_;rintro e w3 ⟨rfl,hb3⟩;have k3:Below w0.1.size w0 w3:=(by exact vB r hb3))
    |(go_at_call 54;have q:=k3;clear q;refine(HU3.o _).mono ?_;rintro e w4 ⟨rfl,hb4⟩;have k4:Below w0.1.size w0 w4:=(by exact vB k3 hb4)))
  all_goals(go_wp2_with fail;go_meet)
  all_goals exact⟨(HCN.o _).1.mono k4.size,vB k4 (HCN.o _).2⟩
 obtain⟨hrow0,hbx⟩:=hcut;rename World=>w5;have B5:cB (Below w.1.size w w5):=vB B0.o hbx;have HBL:cB (jN w5 w.1.size u5 HD):=hrow0.mono B0.o.size;have HK5:cB (w5.cell? ⟨w.1.size,1,none⟩=some (.slice a f.length S)):=(Q.o w5 hbx).2;have y1:=HK5.o;clear x0 x1 Q X6 hrow0 hbx B0 HU1 HU2 HU3 HK5 HCN hcv;go_wp2;go_loopw [5,31] (λP i wr=>∃(k:Nat)(st:ByteArray),k<=f.length/\i=.int .i64 k/\st.size<=100000024/\cB (st=HD++sE (f.take k))/\cB (∀j(h:j<f.length),j<k->cK f[j])/\cB (jN wr w.1.size P st)/\Below w.1.size w wr) (λ_ i _=>f.length-(intOf i).toNat)
 case atStart=>exact⟨0,HD,Oa _,rfl,by omega,bB (by simp[sE]),λj _ h=>absurd h (by omega),HBL.o,B5.o⟩
 case round=>
  obtain⟨k,st,hk,rfl,b0,G,p,M,A⟩:=hrel;by_cases V:k<f.length
  .obtain ⟨b,o,a1,T,a2,U,rfl,hb,e0,e1,e2,e3,p1,p2⟩:=HF.o.at V;obtain⟨q1,q2,q3,q4,q5⟩:=HB.o k V;obtain⟨r1,r2,r3⟩:=HR.o k V;have d0:wr.cell? ⟨b,o+k*4,none⟩=some (.string f[k].N):=(A.cell hb).trans e0;have d1:wr.cell? ⟨b,o+k*4+1,none⟩=some (.int .i64 f[k].L):=(A.cell hb).trans e1;have d2:wr.cell? ⟨b,o+k*4+2,none⟩=some (.slice a1 f[k].M.length T):=(A.cell hb).trans e2;have d3:wr.cell? ⟨b,o+k*4+3,none⟩=some (.slice a2 f[k].Z.length U):=(A.cell hb).trans e3;have P1:cB (jC w a1 f[k].M):=p1;have P2:cB (jC w a2 f[k].Z):=p2;have Q4:cB (∀j(h':j<f[k].M.length),f[k].M[j].s.size<=1000000000):=q4;have Q5:cB (∀j(h':j<f[k].Z.length),f[k].Z[j].s.size<=1000000000):=q5;have R2:cB (ew f[k].M):=r2;have R3:cB (ew f[k].Z):=r3;have HS8:cB (∀W,Calls prog 92 #[.string f[k].N] W λe m=>e=.returned (.string (aN f[k].N))/\Below W.1.size W m):=λW=>jQ f[k].N W q1;have HN8:cB (∀W,Calls prog 54 #[.int .i64 8,.int .i64 f[k].L] W λe m=>e=.returned (.string (pB 8 f[k].L))/\Below W.1.size W m):=λW=>lD 8 _ W (by omega) r1.1 r1.2;have HN4:cB (∀W,Calls prog 54 #[.int .i64 4,.int .i64 (f[k].M.length:Nat)] W λe m=>e=.returned (.string (pB 4 (f[k].M.length:Nat)))/\Below W.1.size W m):=λW=>lD 4 _ W (by omega) (by omega) (by omega);have HN5:cB (∀W,Calls prog 54 #[.int .i64 4,.int .i64 (f[k].Z.length:Nat)] W λe m=>e=.returned (.string (pB 4 (f[k].Z.length:Nat)))/\Below W.1.size W m):=λW=>lD 4 _ W (by omega) (by omega) (by omega);have hq1:=rF f[k].N;have hq2:=gB 8 f[k].L;have hq3:=gB 4 (f[k].M.length:Nat);have hq4:=gB 4 (f[k].Z.length:Nat);have HEQ:cB (sE (f.take (k+1))=sE (f.take k)++(aN f[k].N++pB 8 f[k].L++pB 4 (f[k].M.length:Nat)++mE f[k].M++pB 4 (f[k].Z.length:Nat)++mE f[k].Z)):=by show _=_;rw[PY f k V];rfl
   have HLE:cB ((HD++sE (f.take (k+1))).size<=100000024):=by show _<=_;have:=sV f (k+1);rw[Ka];omega
   have HA2:cB (f[k].N.size<=255->UD f[k].M->UD f[k].Z->∀j(h:j<f.length),j<k+1->cK f[j]):=λz1 z2 z3 j h hj=>by
    rcases Gc j k with h1|h1
    .exact p.o j h h1
    .obtain rfl:j=k:=by omega
     exact⟨z1,z2,z3⟩
   have HNN:cB (¬f[k].N.size<=255->SB=ByteArray.empty):=λz=>HNO.o k V λhh=>z hh.1;have HNM:cB (∀j(h:j<f[k].M.length),¬f[k].M[j].s.size<=65535->SB=ByteArray.empty):=λj h z=>HNO.o k V λhh=>z (hh.2.1 j h);have HNS:cB (∀j(h:j<f[k].Z.length),¬f[k].Z[j].s.size<=65535->SB=ByteArray.empty):=λj h z=>HNO.o k V λhh=>z (hh.2.2 j h);have hnb:¬b=wr.1.size:=by have:=A.size;omega
   clear e0 e1 e2 e3 p1 p2 q4 q5 r1 r2 r3 p HNO;generalize aN f[k].N=S1 at *;generalize pB 8 f[k].L=S2 at *;generalize pB 4 (f[k].M.length:Nat)=S3 at *;generalize pB 4 (f[k].Z.length:Nat)=S4 at *;generalize f[k].N=nm at *;generalize f[k].L=li at *;generalize f[k].M=I at *;generalize f[k].Z=ss at *;by_cases hok:nm.size<=255
   .have hgt:¬(nm.size:Int) > 255:=by omega
    have a0:cB (PE w (wr.alloc (.cells #[.string nm,.int .i64 li,.slice a1 I.length T,.slice a2 ss.length U] 94)) wr.1.size #[.string nm,.int .i64 li,.slice a1 I.length T,.slice a2 ss.length U] u5 st):=⟨M.o.z zB,YB M.o,nB.new _ _ _,vB A zB⟩
    have hz:S1.size+S2.size+S3.size<=1000000013:=by omega
    have HQ:=bB (⟨hq1,hq2,hq3,hq4⟩:_/\_/\_/\_);have n1:¬(9223372036854775807<S1.size+S2.size):=by omega
    have n2:¬(9223372036854775807<S1.size+S2.size+S3.size):=by omega
    have HZ:=bB hz;clear M hq1 hq2 hq3 hq4 hz;go_upto_region 9 with fail;generalize wr.alloc (.cells #[.string nm,.int .i64 li,.slice a1 I.length T,.slice a2 ss.length U] 94)=W at *;have hww:=a0.o.B.size;clear hnb d0 d1 d2 d3 hb A;generalize wr.1.size=BX at *;clear wr;have Q:=bB (λm(h:Below W.1.size W m)=>(a0.o.X.z h).c4);obtain⟨x0,x1,x2,x3⟩:=a0.o.X.c4;go_cut [5] (λP wx=>PE w wx BX #[.string nm,.int .i64 li,.slice a1 I.length T,.slice a2 ss.length U] P (st++(S1++S2++S3)))
    case first=>
     go_region_held3 (λm=>m.cell? ⟨BX,0,none⟩=some (.string nm)/\m.cell? ⟨BX,1,none⟩=some (.int .i64 li)/\m.cell? ⟨BX,2,none⟩=some (.slice a1 I.length T)/\m.cell? ⟨BX,3,none⟩=some (.slice a2 ss.length U))
      (first|go_keep|exact k5|exact Q.o _ k3|exact Q.o _ r|exact Q.o _ k1)
      (first
       |(go_at_call 92;refine(HS8.o _).mono ?_;rintro e w1 ⟨rfl,hb1⟩;have k1:Below W.1.size W w1:=vB iD.drew hb1)
       |(go_at_call 54;(fail_if_success (have q:=r));refine(HN8.o _).mono ?_;rintro e w2 ⟨rfl,J⟩;have r:Below W.1.size W w2:=vB k1 J)
       |(go_at_call 54;have q:=r;clear q;refine(HN4.o _).mono ?_;rintro e w3 ⟨rfl,hb3⟩;have k3:Below W.1.size W w3:=vB r hb3;have hz3:=k3.size)
       |(have q:=k3;clear q;refine mP _ (by rfl) _ _ (by rfl) w.1.size _ st (S1++S2++S3) (by rfl) (a0.o.z k3).R (by rfl) (by omega) (by have:=HZ.o;rw[Ka,Ka];omega) ?_;intro v5 w5 t K D y O;have Z:=bB ((a0.o.z k3).app t D y K);have k5:=Z.o.X.c4))
     all_goals(go_wp2_with fail;go_meet)
     all_goals exact Z.o
    rename World=>w5;have hs1:(st++(S1++S2++S3)).size<=1200000000:=by have:=HZ.o;rw[Ka,Ka,Ka];omega
    have HQ1:cB (st++(S1++S2++S3)=HD++sE (f.take k)++(S1++S2++S3)):=bB (by rw[G.o]);have PP:=bB hcut;obtain⟨-,-,y2,y3⟩:=hcut.X.c4;clear hcut a0 Q x0 x1 x2 x3 n1 n2 G b0;generalize st++(S1++S2++S3)=st1 at *;obtain⟨TC,hTC⟩:∃TC:Array Value,TC=#[.string nm,.int .i64 li,.slice a1 I.length T,.slice a2 ss.length U]:=⟨_,rfl⟩
    rw[<-hTC]at PP;have HTC:=bB hTC;clear hTC;go_upto_block 2 with fail;clear y2 y3;go_cut [5] (λP wx=>∃st,st=st1++mE I/\(∀j(h:j<I.length),I[j].s.size<=65535)/\PE w wx BX TC P st/\st.size<=150000000000)
    case first=>
     go_wp2_with fail;go_loopw [5,56] (λP i wr=>∃(r:Nat)(st:ByteArray),r<=I.length/\i=.int .i64 r/\st.size<=1200000000+r*70000/\cB (st=st1++mE (I.take r))/\cB (∀j(h:j<I.length),j<r->I[j].s.size<=65535)/\cB (PE w wr BX TC P st)) (λ_ i _=>I.length-(intOf i).toNat)
     case atStart=>exact⟨0,st1,Oa _,rfl,by omega,bB (by simp[mE]),λj _ h=>absurd h (by omega),PP.o⟩
     case round=>
      obtain⟨r,st,hk2,rfl,b0,G,p,L⟩:=hrel;by_cases x:r<I.length
      .obtain ⟨b2,o2,rfl,J,c,d⟩:=(P1.o.z L.o.B).at x;have hn1:=Q4.o r x;have Y:=R2.o r x;have hnb:¬b2=wr.1.size:=by omega
       by_cases C:I[r].s.size<=65535
       .obtain ⟨U3,U4,HS16,HM8,HZ,m1,E2,hgt2⟩:=aGp x Y C G.o p.o;clear C p Y;generalize I[r].s=tx at *;generalize I[r].n=nu at *;have HX:=bB (nB.new wr #[.string tx,.int .i64 nu] 96);have hg2:=L.o.fresh;replace L:=bB (L.o.z (wF wr (.cells #[.string tx,.int .i64 nu] 96)));go_upto_region 15 with fail;generalize wr.alloc (.cells #[.string tx,.int .i64 nu] 96)=W at *;have hww:=L.o.B.size;have hW:=aB HX.o;clear hnb J c d;generalize wr.1.size=BY at *;clear wr;have Q:=bB (λm(h:Below W.1.size W m)=>(HX.o.z h).c2);obtain⟨x0,x1⟩:=HX.o.c2;go_region_held3 (λm=>m.cell? ⟨BY,0,none⟩=some (.string tx)/\m.cell? ⟨BY,1,none⟩=some (.int .i64 nu))
         (first|go_keep|exact k5|exact Q.o _ F|exact Q.o _ k1)
         (first
          |(go_at_call 62;refine(HS16.o _).mono ?_;rintro e w1 ⟨rfl,hb1⟩;have k1:Below W.1.size W w1:=vB iD.drew hb1)
          |(go_at_call 54;refine(HM8.o _).mono ?_;rintro e w2 ⟨rfl,J⟩;have F:Below W.1.size W w2:=vB k1 J;have hz2:=F.size)
          |(have q:=F;clear q;refine mP _ (by rfl) _ _ (by rfl) w.1.size _ st (U3++U4) (by rfl) (L.o.z F).R (by rfl) (by omega) (by have:=HZ.o;omega) ?_;intro v5 w5 t K D y O;have k5:=nB.c2 ((D BY (by omega) hg2).trans (HX.o.z F));have Z:=bB ((L.o.z F).app t D y K)))
        have hst5:(st++(U3++U4)).size<=1200000000+(r+1)*70000:=by have:=HZ.o;rw[Ka];omega
        clear t K D k5 y O m1 b0;generalize st++(U3++U4)=st5 at *;go_wp2;exact⟨⟨r+1,st5,by omega,by go_num,hst5,E2.o.1,E2.o.2,Z.o⟩,by simp[intOf];omega⟩
       .have E:cB (SB=ByteArray.empty):=HNM.o r x C;have hgt2:(I[r].s.size:Int) > 65535:=by omega
        generalize I[r].s=tx at *;generalize I[r].n=nu at *;clear C p Y;go_wp2;go_ret;exact⟨by rw[E.o];rfl,vB L.o.B zB⟩
      .have HA:=bB (λj(h:j<I.length)=>p.o j h (by omega));have E:cB (st=st1++mE I):=bB (by rw[G.o,Ra (by omega)]);have hs9:st.size<=150000000000:=by omega
       clear p G;go_wp2;go_meet;exact⟨st,E.o,HA.o,L.o,hs9⟩
    obtain⟨st2,hE,hA,hP,hz2⟩:=hcut;rename World=>w6;have HE1:=bB hE;have HA1:=bB hA;have P6:=bB hP;have X6:=bB hP.X;rw[HTC.o]at X6;obtain⟨-,-,-,y3⟩:=X6.o.c4;clear hE hA hP PP;go_wp2_with fail;refine(HN5.o _).mono ?_;rintro e w7 ⟨rfl,hb7⟩;replace P6:=bB (P6.o.z hb7);replace X6:=bB (X6.o.z hb7);have hw7:=P6.o.B.size;clear hb7 y3;go_wp2_with(at_builtin;refine tK _ rfl _ _ rfl w.1.size _ st2 S4 rfl P6.o.R rfl hw7 (by have:=HQ.o.2.2.2;omega) ?_;intro v5 w8 t K D y O;have PP:=bB (P6.o.app t D y K);have X8:=bB ((D BX (aB P6.o.X) P6.o.N).trans X6.o);clear t K D y O;have y3:=nB.cell X8.o 3);have HE3:cB (st2++S4=st1++mE I++S4):=bB (by rw[HE1.o]);have hs3':(st2++S4).size<=150000000004:=by have:=HQ.o.2.2.2;rw[Ka];omega
    clear HE1 hz2 P6 X6;generalize st2++S4=st3 at *;go_wp2;clear y3 X8;go_loopw [5,83] (λP i wr=>∃(r:Nat)(st:ByteArray),r<=ss.length/\i=.int .i64 r/\st.size<=150000000004+r*70000/\cB (st=st3++mE (ss.take r))/\cB (∀j(h:j<ss.length),j<r->ss[j].s.size<=65535)/\cB (PE w wr BX TC P st)) (λ_ i _=>ss.length-(intOf i).toNat)
    case atStart=>exact⟨0,st3,Oa _,rfl,by omega,bB (by simp[mE]),λj _ h=>absurd h (by omega),PP.o⟩
    case round=>
     obtain⟨r,st,hk2,rfl,b0,G,p,L⟩:=hrel;by_cases x:r<ss.length
     .obtain ⟨b2,o2,rfl,J,c,d⟩:=(P2.o.z L.o.B).at x;have hn1:=Q5.o r x;have Y:=R3.o r x;have hnb:¬b2=wr.1.size:=by omega
      by_cases C:ss[r].s.size<=65535
      .obtain ⟨U3,U4,HS16,HM8,HZ,m1,E2,hgt2⟩:=aGp x Y C G.o p.o;clear C p Y;generalize ss[r].s=tx at *;generalize ss[r].n=nu at *;have HX:=bB (nB.new wr #[.string tx,.int .i64 nu] 98);have hg2:=L.o.fresh;replace L:=bB (L.o.z (wF wr (.cells #[.string tx,.int .i64 nu] 98)));go_upto_region 23 with fail;generalize wr.alloc (.cells #[.string tx,.int .i64 nu] 98)=W at *;have hww:=L.o.B.size;have hW:=aB HX.o;clear hnb J c d;generalize wr.1.size=BY at *;clear wr;have Q:=bB (λm(h:Below W.1.size W m)=>(HX.o.z h).c2);obtain⟨x0,x1⟩:=HX.o.c2;go_region_held3 (λm=>m.cell? ⟨BY,0,none⟩=some (.string tx)/\m.cell? ⟨BY,1,none⟩=some (.int .i64 nu))
        (first|go_keep|exact k5|exact Q.o _ F|exact Q.o _ k1)
        (first
         |(go_at_call 62;refine(HS16.o _).mono ?_;rintro e w1 ⟨rfl,hb1⟩;have k1:Below W.1.size W w1:=vB iD.drew hb1)
         |(go_at_call 54;refine(HM8.o _).mono ?_;rintro e w2 ⟨rfl,J⟩;have F:Below W.1.size W w2:=vB k1 J;have hz2:=F.size)
         |(have q:=F;clear q;refine mP _ (by rfl) _ _ (by rfl) w.1.size _ st (U3++U4) (by rfl) (L.o.z F).R (by rfl) (by omega) (by have:=HZ.o;omega) ?_;intro v5 w5 t K D y O;have k5:=nB.c2 ((D BY (by omega) hg2).trans (HX.o.z F));have Z:=bB ((L.o.z F).app t D y K)))
       have hst5:(st++(U3++U4)).size<=150000000004+(r+1)*70000:=by have:=HZ.o;rw[Ka];omega
       clear t K D k5 y O m1 b0;generalize st++(U3++U4)=st5 at *;go_wp2;exact⟨⟨r+1,st5,by omega,by go_num,hst5,E2.o.1,E2.o.2,Z.o⟩,by simp[intOf];omega⟩
      .have E:cB (SB=ByteArray.empty):=HNS.o r x C;have hgt2:(ss[r].s.size:Int) > 65535:=by omega
       generalize ss[r].s=tx at *;generalize ss[r].n=nu at *;clear C p Y;go_wp2;go_ret;exact⟨by rw[E.o];rfl,vB L.o.B zB⟩
     .have HA:=bB (λj(h:j<ss.length)=>p.o j h (by omega));have E4:cB (st=HD++sE (f.take (k+1))):=bB (by rw[G.o,Ra (by omega),HE3.o,HQ1.o,HEQ.o];simp only[Wa]);have hst9:st.size<=100000024:=by rw[E4.o];exact HLE.o
      clear p G;go_wp2;exact⟨⟨k+1,st,by omega,by go_num,hst9,E4.o,HA2.o hok HA1.o HA.o,L.o.R,L.o.B⟩,by simp[intOf];omega⟩
   .have E:cB (SB=ByteArray.empty):=HNN.o hok;have hgt:(nm.size:Int) > 255:=by omega
    clear M;go_wp2;go_ret;exact⟨by rw[E.o];rfl,vB A zB⟩
  .have hall:∀i(h:i<f.length),cK f[i]:=λj h=>p.o j h (by omega);have E2:cB (st=SX):=by
    show _=_;rw[G.o,Ra (by omega),HX.o]
   have E3:cB (SB=SX++N4):=HOK.o hall;have HBK:cB (∀m,Below wr.1.size wr m->(convert 22 9 u5).run prog m=.ok (.string SX) m):=λm h=>by
    have:=DQ (M.o.z h);rw[E2.o]at this;exact this
   have n1:¬(9223372036854775807<SX.size+N4.size):=by omega
   clear M hall p G E2 b0 hzx hz4;go_upto_region 26 with fail;go_region_held3 (λm=>(convert 22 9 u5).run prog m=.ok (.string SX) m)
    (first|go_keep|exact HBK.o _ k4|exact HBK.o _ iD.drew|exact HBK.o _ iD)
    (first
     |(go_at_call 172;refine(HCR.o _).mono ?_;rintro e w3 ⟨rfl,hb3⟩;subst hb3;have k3:Below wr.1.size wr wr.drew:=iD.drew)
     |(go_at_call 54;refine(HU4.o _).mono ?_;rintro e w4 ⟨rfl,hb4⟩;have k4:Below wr.1.size wr w4:=(by exact vB k3 hb4)))
   have B4:cB (Below w.1.size w w4):=vB A k4;go_wp2;go_ret;exact⟨by rw[E3.o];rfl,B4.o⟩
