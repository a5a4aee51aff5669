import Derived.Test.YtcmdjimlmnaojaaGreatDoorJ06
import Derived.Deep.RegionHeld3
import Derived.Deep.DeepCutAuto
import Derived.Deep.CutBlock
set_option maxRecDepth 100000
set_option maxHeartbeats 8000000
namespace Go.Proofs.YtcmdjimlmnaojaaGreatDoor
open Go.RowKit Tryz
def aJh(a:List gB):Prop:=∀i(h:i<a.length),a[i].N.size<=1000000000/\a[i].M.length<=2000000/\a[i].Z.length<=2000000/\(∀j(b:j<a[i].M.length),a[i].M[j].s.size<=1000000000)/\(∀j(b:j<a[i].Z.length),a[i].Z[j].s.size<=1000000000)
theorem aBj(x b a:Int):yB x b a=decide (b<=x/\x<=a):=by
 unfold yB;by_cases c:b<=x<;>by_cases d:x<=a<;>simp[c,d]
theorem OD(a:List gB)(k:Nat):(wF (a.take k)).size<=(wF a).size:=by
 have:=uR (a.take k) (a.drop k);rw[Za]at this;rw[this,Ka];omega
def aJl:Op:=Op.convert 9 22 (Operand.tmp 26)
structure PE(w W:World)(BX:Nat)(TC:Array Value)(u:Value)(st:pB):Prop where
 R:dN W w.1.size u st
 N:u.ownBlock≠some BX
 X:jB W BX TC 131
 B:xB w W
section
variable {w W W':World} {BX:Nat} {TC:Array Value} {u v:Value} {st tx:pB}
theorem PE.z(h:PE w W BX TC u st)(a:xB W W'):PE w W' BX TC u st:=⟨h.R.z a,h.N,h.X.z a,aC h.B a⟩
theorem VX(h:dN W w.1.size u st):u.ownBlock≠some W.1.size:=by
 obtain⟨g,a,-,b⟩:=h.lt;rw[a];exact λe=>by have:=Lc e;omega
theorem PE.fresh(h:PE w W BX TC u st):u.ownBlock≠some W.1.size:=VX h.R
theorem PE.app(h:PE w W BX TC u st)(f:dN W' w.1.size v (st++tx))(c:∀k,k<W.1.size->u.ownBlock≠some k->W'.heap[k]?=W.heap[k]?)(b:v.ownBlock=u.ownBlock\/v.ownBlock=some W.1.size)(a:Below w.1.size W W'):PE w W' BX TC v (st++tx):=by
 have d:=bB h.X;refine⟨f,?_,(c BX d h.N).trans h.X,h.B.trans a⟩;obtain e|e:=b;rw[e];exact h.N;rw[e];exact λe=>by have:=Lc e;omega
end
theorem aEm{a:List kB}{k:Nat}{st b:pB}(h:k<a.length)(m:GN a[k].n)(f:a[k].s.size<=65535)(g:st=b++xG (a.take k))(o:∀j(h:j<a.length),j<k->a[j].s.size<=65535):∃c d:pB,cB (∀W,cF 57 #[.string a[k].s] W (.string c))/\cB (∀W,cF 49 #[aB 8,aB a[k].n] W (.string d))/\cB ((c++d).size<=70000)/\¬(9223372036854775807<c.size+d.size)/\cB (st++(c++d)=b++xG (a.take (k+1))/\∀j(h:j<a.length),j<k+1->a[j].s.size<=65535)/\¬(a[k].s.size:Int) > 65535:=by
 have q:=eF a[k].s;have r:=nB 8 a[k].n;refine⟨_,_,λW=>gO a[k].s W (by omega),λW=>mD 8 a[k].n W (by omega) m.1 m.2,dB (by rw[Ka];omega),by omega,⟨by rw[OB a k h,g,OA,Wa],λj p t=>?_⟩,by omega⟩;rcases Gc j k with l|l;exact o j p l;obtain rfl:j=k:=by omega
 exact f
theorem jt(g l:Int)(a:Option Addr)(S:Nat)(f:List gB)(w:World)(hf:aD w a f)(hB:aJh f)(hR:um f)(hl:GN g)(hno:GN l)(hlen:f.length<=2000000)(hz:(wF f).size<=100000000):
 Calls prog 96 #[.int .i64 g,.agg #[.int .i64 l,.slice a f.length S]] w λe m=>e=.returned (.string (yN g l f))/\Below w.1.size w m:=by
 have HW1:cB (∀W,Calls prog 86 #[.int .i64 g,.int .i64 0,.int .i64 1000000000000000] W λe m=>e=.returned (.bool (decide (0<=g/\g<=1000000000000000)))/\m=W):=λW=>by have:=uD g 0 1000000000000000 W;rw[aBj]at this;exact this
 by_cases c1:¬(0<=g/\g<=1000000000000000)
 .have E:cB (yN g l f=ByteArray.empty):=MO λh=>c1 ⟨h.1,h.2.1⟩;rw[E.o];rw[show decide (0<=g/\g<=1000000000000000)=false from Ub c1]at HW1;clear hf hB c1 hR hl hno;go_enter func96,ntmps96;go_wp2_with fail;refine(HW1.o _).mono ?_;rintro e w1 ⟨rfl,hw⟩;replace hw:=hw.symm;subst hw;go_wp2;go_ret;exact⟨rfl,bC⟩
 replace c1:=Classical.not_not.1 c1;rw[Ac c1]at HW1;have HF:cB (aD w a f):=hf;have HB:cB (aJh f):=hB;have HR:cB (um f):=hR;have HU1:cB (∀W,Calls prog 49 #[.int .i64 8,.int .i64 g] W λe m=>e=.returned (.string (tB 8 g))/\Below W.1.size W m):=λW=>mD 8 g W (by omega) hl.1 hl.2;have HU2:cB (∀W,Calls prog 49 #[.int .i64 8,.int .i64 l] W λe m=>e=.returned (.string (tB 8 l))/\Below W.1.size W m):=λW=>mD 8 l W (by omega) hno.1 hno.2;have HU3:cB (∀W,Calls prog 49 #[.int .i64 4,.int .i64 (f.length:Nat)] W λe m=>e=.returned (.string (tB 4 (f.length:Nat)))/\Below W.1.size W m):=λW=>mD 4 (f.length:Nat) W (by omega) (by omega) (by omega);have hz1:=nB 8 g;have hz2:=nB 8 l;have hz3:=nB 4 (f.length:Nat);have hzx:(iN g l f).size=24+(wF f).size:=by unfold iN;rw[Ka,GC]
 have HX:cB (iN g l f=ckB++tB 8 g++tB 8 l++tB 4 (f.length:Nat)++wF f):=rfl;have HOK:cB ((∀i(h:i<f.length),xK f[i])->yN g l f=iN g l f++tB 4 (pL (iN g l f):Nat)):=λh=>MP ⟨c1.1,c1.2,h⟩;have HNO:cB (∀k(h:k<f.length),¬xK f[k]->yN g l f=ByteArray.empty):=λk h h2=>tk h h2 g l;have HCR:cB (∀W,Calls prog 166 #[.string (iN g l f)] W λe m=>e=.returned (.int .i64 (pL (iN g l f):Nat))/\m=W):=λW=>LC _ W (by unfold maxLen;omega);have HU4:cB (∀W,Calls prog 49 #[.int .i64 4,.int .i64 (pL (iN g l f):Nat)] W λe m=>e=.returned (.string (tB 4 (pL (iN g l f):Nat)))/\Below W.1.size W m):=λW=>by
  have:=ro (iN g l f);exact mD 4 _ W (by omega) (by omega) (by omega)
 have hz4:=nB 4 (pL (iN g l f):Nat);generalize tB 4 (pL (iN g l f):Nat)=N4 at *;generalize pL (iN g l f)=CR at *;generalize iN g l f=SX at *;generalize yN g l f=SB at *;generalize tB 8 g=N1 at *;generalize tB 8 l=N2 at *;generalize tB 4 (f.length:Nat)=N3 at *;have hzd:(ckB++N1++N2++N3).size=24:=by rw[Ka,Ka,Ka,hz1,hz2,hz3];rfl
 obtain⟨CV,CN,hcv,hcn⟩:=DZ (ckB++N1++N2++N3) (by omega);have HCN:cB (∀w,dN (CN w) w.1.size (CV w) (ckB++N1++N2++N3)/\Below w.1.size w (CN w)):=hcn;unfold ckB at hcv;obtain⟨HD,hHD⟩:∃H:ByteArray,H=ckB++N1++N2++N3:=⟨_,rfl⟩
 rw[<-hHD]at HCN HX hzd;clear hf hB hR hl hno hcn hHD;go_enter func96,ntmps96;go_wp2_with fail;refine(HW1.o _).mono ?_;rintro e w1 ⟨rfl,hw⟩;replace hw:=hw.symm;subst hw;clear HW1;go_upto_region 3 with fail;have X6:cB (jB (w.alloc (.cells #[.int .i64 l,.slice a f.length S] 40)) w.1.size #[.int .i64 l,.slice a f.length S] 40):=heap_alloc_new _ _;have B0:cB (Below w.1.size w (w.alloc (.cells #[.int .i64 l,.slice a f.length S] 40))):=bC;generalize w.alloc (.cells #[.int .i64 l,.slice a f.length S] 40)=w0 at *;have Q:cB (∀m,Below w0.1.size w0 m->m.cell? ⟨w.1.size,0,none⟩=some (.int .i64 l)/\m.cell? ⟨w.1.size,1,none⟩=some (.slice a f.length S)):=λm h=>by
  have q:=X6.o.z h;exact⟨q.cell 0,q.cell 1⟩
 obtain⟨x0,x1⟩:=Q.o w0 gD;go_cut [5] (λs wx=>dN wx w0.1.size s HD/\Below w0.1.size w0 wx)
 case first=>
  rw[show Op.convert 9 22 (Operand.tmp 26)=aJl from rfl];have hop:aJl=Op.convert 9 22 (Operand.tmp 26):=rfl;go_region_held3 (λm=>m.cell? ⟨w.1.size,0,none⟩=some (.int .i64 l)/\m.cell? ⟨w.1.size,1,none⟩=some (.slice a f.length S))
   (first|go_keep|exact Q.o _ (aC k4 (HCN.o _).2)|exact Q.o _ k4|exact Q.o _ k3|exact Q.o _ r)
   (first
    |(go_at_call 49;(fail_if_success (have q:=r));refine(HU1.o _).mono ?_;rintro e w2 ⟨rfl,J⟩;have r:Below w0.1.size w0 w2:=(by exact aC gD.drew J))
    |(go_at_call 49;have q:=r;clear q;(fail_if_success (have q:=k3));refine(HU2.o _).mono ?_;rintro e w3 ⟨rfl,hb3⟩;have k3:Below w0.1.size w0 w3:=(by exact aC r hb3))
    |(go_at_call 49;have q:=k3;clear q;refine(HU3.o _).mono ?_;rintro e w4 ⟨rfl,hb4⟩;have k4:Below w0.1.size w0 w4:=(by exact aC k3 hb4)))
  all_goals(go_wp2_with fail;go_meet)
  all_goals exact⟨(HCN.o _).1.mono k4.size,aC k4 (HCN.o _).2⟩
 obtain⟨hrow0,hbx⟩:=hcut;rename World=>w5;have B5:cB (Below w.1.size w w5):=aC B0.o hbx;have HBL:cB (dN w5 w.1.size u5 HD):=hrow0.mono B0.o.size;have HK5:cB (w5.cell? ⟨w.1.size,1,none⟩=some (.slice a f.length S)):=(Q.o w5 hbx).2;have y1:=HK5.o;clear x0 x1 Q X6 hrow0 hbx B0 HU1 HU2 HU3 HK5 HCN hcv;go_wp2;go_loopw [5,31] (λP i wr=>∃(k:Nat)(st:ByteArray),k<=f.length/\i=.int .i64 k/\st.size<=100000024/\cB (st=HD++wF (f.take k))/\cB (∀j(h:j<f.length),j<k->xK f[j])/\cB (dN wr w.1.size P st)/\Below w.1.size w wr) (λ_ i _=>f.length-(intOf i).toNat)
 case atStart=>exact⟨0,HD,Oa _,rfl,by omega,dB (by simp[wF]),λj _ h=>absurd h (by omega),HBL.o,B5.o⟩
 case round=>
  obtain⟨k,st,hk,rfl,b0,G,p,M,A⟩:=hrel;by_cases V:k<f.length
  .obtain ⟨b,o,a1,T,a2,U,rfl,hb,e0,e1,e2,e3,p1,p2⟩:=HF.o.at V;obtain⟨q1,q2,q3,q4,q5⟩:=HB.o k V;obtain⟨r1,r2,r3⟩:=HR.o k V;have d0:wr.cell? ⟨b,o+k*4,none⟩=some (.string f[k].N):=(A.cell hb).trans e0;have d1:wr.cell? ⟨b,o+k*4+1,none⟩=some (.int .i64 f[k].L):=(A.cell hb).trans e1;have d2:wr.cell? ⟨b,o+k*4+2,none⟩=some (.slice a1 f[k].M.length T):=(A.cell hb).trans e2;have d3:wr.cell? ⟨b,o+k*4+3,none⟩=some (.slice a2 f[k].Z.length U):=(A.cell hb).trans e3;have P1:cB (mC w a1 f[k].M):=p1;have P2:cB (mC w a2 f[k].Z):=p2;have Q4:cB (∀j(h':j<f[k].M.length),f[k].M[j].s.size<=1000000000):=q4;have Q5:cB (∀j(h':j<f[k].Z.length),f[k].Z[j].s.size<=1000000000):=q5;have R2:cB (aAw f[k].M):=r2;have R3:cB (aAw f[k].Z):=r3;have HS8:cB (∀W,Calls prog 87 #[.string f[k].N] W λe m=>e=.returned (.string (gN f[k].N))/\Below W.1.size W m):=λW=>cQ f[k].N W q1;have HN8:cB (∀W,Calls prog 49 #[.int .i64 8,.int .i64 f[k].L] W λe m=>e=.returned (.string (tB 8 f[k].L))/\Below W.1.size W m):=λW=>mD 8 _ W (by omega) r1.1 r1.2;have HN4:cB (∀W,Calls prog 49 #[.int .i64 4,.int .i64 (f[k].M.length:Nat)] W λe m=>e=.returned (.string (tB 4 (f[k].M.length:Nat)))/\Below W.1.size W m):=λW=>mD 4 _ W (by omega) (by omega) (by omega);have HN5:cB (∀W,Calls prog 49 #[.int .i64 4,.int .i64 (f[k].Z.length:Nat)] W λe m=>e=.returned (.string (tB 4 (f[k].Z.length:Nat)))/\Below W.1.size W m):=λW=>mD 4 _ W (by omega) (by omega) (by omega);have hq1:=sF f[k].N;have hq2:=nB 8 f[k].L;have hq3:=nB 4 (f[k].M.length:Nat);have hq4:=nB 4 (f[k].Z.length:Nat);have HEQ:cB (wF (f.take (k+1))=wF (f.take k)++(gN f[k].N++tB 8 f[k].L++tB 4 (f[k].M.length:Nat)++xG f[k].M++tB 4 (f[k].Z.length:Nat)++xG f[k].Z)):=by show _=_;rw[OC f k V];rfl
   have HLE:cB ((HD++wF (f.take (k+1))).size<=100000024):=by show _<=_;have:=OD f (k+1);rw[Ka];omega
   have HA2:cB (f[k].N.size<=255->WY f[k].M->WY f[k].Z->∀j(h:j<f.length),j<k+1->xK f[j]):=λz1 z2 z3 j h hj=>by
    rcases Gc j k with h1|h1
    .exact p.o j h h1
    .obtain rfl:j=k:=by omega
     exact⟨z1,z2,z3⟩
   have HNN:cB (¬f[k].N.size<=255->SB=ByteArray.empty):=λz=>HNO.o k V λhh=>z hh.1;have HNM:cB (∀j(h:j<f[k].M.length),¬f[k].M[j].s.size<=65535->SB=ByteArray.empty):=λj h z=>HNO.o k V λhh=>z (hh.2.1 j h);have HNS:cB (∀j(h:j<f[k].Z.length),¬f[k].Z[j].s.size<=65535->SB=ByteArray.empty):=λj h z=>HNO.o k V λhh=>z (hh.2.2 j h);have hnb:¬b=wr.1.size:=by have:=A.size;omega
   clear e0 e1 e2 e3 p1 p2 q4 q5 r1 r2 r3 p HNO;generalize gN f[k].N=S1 at *;generalize tB 8 f[k].L=S2 at *;generalize tB 4 (f[k].M.length:Nat)=S3 at *;generalize tB 4 (f[k].Z.length:Nat)=S4 at *;generalize f[k].N=nm at *;generalize f[k].L=li at *;generalize f[k].M=I at *;generalize f[k].Z=ss at *;by_cases hok:nm.size<=255
   .have hgt:¬(nm.size:Int) > 255:=by omega
    have a0:cB (PE w (wr.alloc (.cells #[.string nm,.int .i64 li,.slice a1 I.length T,.slice a2 ss.length U] 131)) wr.1.size #[.string nm,.int .i64 li,.slice a1 I.length T,.slice a2 ss.length U] u5 st):=⟨M.o.z bC,VX M.o,jB.new _ _ _,aC A bC⟩
    have hz:S1.size+S2.size+S3.size<=1000000013:=by omega
    have HQ:=dB (⟨hq1,hq2,hq3,hq4⟩:_/\_/\_/\_);have n1:¬(9223372036854775807<S1.size+S2.size):=by omega
    have n2:¬(9223372036854775807<S1.size+S2.size+S3.size):=by omega
    have HZ:=dB hz;clear M hq1 hq2 hq3 hq4 hz;go_upto_region 9 with fail;generalize wr.alloc (.cells #[.string nm,.int .i64 li,.slice a1 I.length T,.slice a2 ss.length U] 131)=W at *;have hww:=a0.o.B.size;clear hnb d0 d1 d2 d3 hb A;generalize wr.1.size=BX at *;clear wr;have Q:=dB (λm(h:Below W.1.size W m)=>(a0.o.X.z h).c4);obtain⟨x0,x1,x2,x3⟩:=a0.o.X.c4;go_cut [5] (λP wx=>PE w wx BX #[.string nm,.int .i64 li,.slice a1 I.length T,.slice a2 ss.length U] P (st++(S1++S2++S3)))
    case first=>
     go_region_held3 (λm=>m.cell? ⟨BX,0,none⟩=some (.string nm)/\m.cell? ⟨BX,1,none⟩=some (.int .i64 li)/\m.cell? ⟨BX,2,none⟩=some (.slice a1 I.length T)/\m.cell? ⟨BX,3,none⟩=some (.slice a2 ss.length U))
      (first|go_keep|exact k5|exact Q.o _ k3|exact Q.o _ r|exact Q.o _ k1)
      (first
       |(go_at_call 87;refine(HS8.o _).mono ?_;rintro e w1 ⟨rfl,hb1⟩;have k1:Below W.1.size W w1:=aC gD.drew hb1)
       |(go_at_call 49;(fail_if_success (have q:=r));refine(HN8.o _).mono ?_;rintro e w2 ⟨rfl,J⟩;have r:Below W.1.size W w2:=aC k1 J)
       |(go_at_call 49;have q:=r;clear q;refine(HN4.o _).mono ?_;rintro e w3 ⟨rfl,hb3⟩;have k3:Below W.1.size W w3:=aC r hb3;have hz3:=k3.size)
       |(have q:=k3;clear q;refine bP _ (by rfl) _ _ (by rfl) w.1.size _ st (S1++S2++S3) (by rfl) (a0.o.z k3).R (by rfl) (by omega) (by have:=HZ.o;rw[Ka,Ka];omega) ?_;intro v5 w5 t K D y O;have Z:=dB ((a0.o.z k3).app t D y K);have k5:=Z.o.X.c4))
     all_goals(go_wp2_with fail;go_meet)
     all_goals exact Z.o
    rename World=>w5;have hs1:(st++(S1++S2++S3)).size<=1200000000:=by have:=HZ.o;rw[Ka,Ka,Ka];omega
    have HQ1:cB (st++(S1++S2++S3)=HD++wF (f.take k)++(S1++S2++S3)):=dB (by rw[G.o]);have PP:=dB hcut;obtain⟨-,-,y2,y3⟩:=hcut.X.c4;clear hcut a0 Q x0 x1 x2 x3 n1 n2 G b0;generalize st++(S1++S2++S3)=st1 at *;obtain⟨TC,hTC⟩:∃TC:Array Value,TC=#[.string nm,.int .i64 li,.slice a1 I.length T,.slice a2 ss.length U]:=⟨_,rfl⟩
    rw[<-hTC]at PP;have HTC:=dB hTC;clear hTC;go_upto_block 2 with fail;clear y2 y3;go_cut [5] (λP wx=>∃st,st=st1++xG I/\(∀j(h:j<I.length),I[j].s.size<=65535)/\PE w wx BX TC P st/\st.size<=150000000000)
    case first=>
     go_wp2_with fail;go_loopw [5,56] (λP i wr=>∃(r:Nat)(st:ByteArray),r<=I.length/\i=.int .i64 r/\st.size<=1200000000+r*70000/\cB (st=st1++xG (I.take r))/\cB (∀j(h:j<I.length),j<r->I[j].s.size<=65535)/\cB (PE w wr BX TC P st)) (λ_ i _=>I.length-(intOf i).toNat)
     case atStart=>exact⟨0,st1,Oa _,rfl,by omega,dB (by simp[xG]),λj _ h=>absurd h (by omega),PP.o⟩
     case round=>
      obtain⟨r,st,hk2,rfl,b0,G,p,L⟩:=hrel;by_cases x:r<I.length
      .obtain ⟨b2,o2,rfl,J,c,d⟩:=(P1.o.z L.o.B).at x;have hn1:=Q4.o r x;have Y:=R2.o r x;have hnb:¬b2=wr.1.size:=by omega
       by_cases C:I[r].s.size<=65535
       .obtain ⟨U3,U4,HS16,HM8,HZ,m1,E2,hgt2⟩:=aEm x Y C G.o p.o;clear C p Y;generalize I[r].s=tx at *;generalize I[r].n=nu at *;have HX:=dB (jB.new wr #[.string tx,.int .i64 nu] 184);have hg2:=L.o.fresh;replace L:=dB (L.o.z (zF wr (.cells #[.string tx,.int .i64 nu] 184)));go_upto_region 15 with fail;generalize wr.alloc (.cells #[.string tx,.int .i64 nu] 184)=W at *;have hww:=L.o.B.size;have hW:=bB HX.o;clear hnb J c d;generalize wr.1.size=BY at *;clear wr;have Q:=dB (λm(h:Below W.1.size W m)=>(HX.o.z h).c2);obtain⟨x0,x1⟩:=HX.o.c2;go_region_held3 (λm=>m.cell? ⟨BY,0,none⟩=some (.string tx)/\m.cell? ⟨BY,1,none⟩=some (.int .i64 nu))
         (first|go_keep|exact k5|exact Q.o _ F|exact Q.o _ k1)
         (first
          |(go_at_call 57;refine(HS16.o _).mono ?_;rintro e w1 ⟨rfl,hb1⟩;have k1:Below W.1.size W w1:=aC gD.drew hb1)
          |(go_at_call 49;refine(HM8.o _).mono ?_;rintro e w2 ⟨rfl,J⟩;have F:Below W.1.size W w2:=aC k1 J;have hz2:=F.size)
          |(have q:=F;clear q;refine bP _ (by rfl) _ _ (by rfl) w.1.size _ st (U3++U4) (by rfl) (L.o.z F).R (by rfl) (by omega) (by have:=HZ.o;omega) ?_;intro v5 w5 t K D y O;have k5:=jB.c2 ((D BY (by omega) hg2).trans (HX.o.z F));have Z:=dB ((L.o.z F).app t D y K)))
        have hst5:(st++(U3++U4)).size<=1200000000+(r+1)*70000:=by have:=HZ.o;rw[Ka];omega
        clear t K D k5 y O m1 b0;generalize st++(U3++U4)=st5 at *;go_wp2;exact⟨⟨r+1,st5,by omega,by go_num,hst5,E2.o.1,E2.o.2,Z.o⟩,by simp[intOf];omega⟩
       .have E:cB (SB=ByteArray.empty):=HNM.o r x C;have hgt2:(I[r].s.size:Int) > 65535:=by omega
        generalize I[r].s=tx at *;generalize I[r].n=nu at *;clear C p Y;go_wp2;go_ret;exact⟨by rw[E.o];rfl,aC L.o.B bC⟩
      .have HA:=dB (λj(h:j<I.length)=>p.o j h (by omega));have E:cB (st=st1++xG I):=dB (by rw[G.o,Ra (by omega)]);have hs9:st.size<=150000000000:=by omega
       clear p G;go_wp2;go_meet;exact⟨st,E.o,HA.o,L.o,hs9⟩
    obtain⟨st2,hE,hA,hP,hz2⟩:=hcut;rename World=>w6;have HE1:=dB hE;have HA1:=dB hA;have P6:=dB hP;have X6:=dB hP.X;rw[HTC.o]at X6;obtain⟨-,-,-,y3⟩:=X6.o.c4;clear hE hA hP PP;go_wp2_with fail;refine(HN5.o _).mono ?_;rintro e w7 ⟨rfl,hb7⟩;replace P6:=dB (P6.o.z hb7);replace X6:=dB (X6.o.z hb7);have hw7:=P6.o.B.size;clear hb7 y3;go_wp2_with(at_builtin;refine rK _ rfl _ _ rfl w.1.size _ st2 S4 rfl P6.o.R rfl hw7 (by have:=HQ.o.2.2.2;omega) ?_;intro v5 w8 t K D y O;have PP:=dB (P6.o.app t D y K);have X8:=dB ((D BX (bB P6.o.X) P6.o.N).trans X6.o);clear t K D y O;have y3:=jB.cell X8.o 3);have HE3:cB (st2++S4=st1++xG I++S4):=dB (by rw[HE1.o]);have hs3':(st2++S4).size<=150000000004:=by have:=HQ.o.2.2.2;rw[Ka];omega
    clear HE1 hz2 P6 X6;generalize st2++S4=st3 at *;go_wp2;clear y3 X8;go_loopw [5,83] (λP i wr=>∃(r:Nat)(st:ByteArray),r<=ss.length/\i=.int .i64 r/\st.size<=150000000004+r*70000/\cB (st=st3++xG (ss.take r))/\cB (∀j(h:j<ss.length),j<r->ss[j].s.size<=65535)/\cB (PE w wr BX TC P st)) (λ_ i _=>ss.length-(intOf i).toNat)
    case atStart=>exact⟨0,st3,Oa _,rfl,by omega,dB (by simp[xG]),λj _ h=>absurd h (by omega),PP.o⟩
    case round=>
     obtain⟨r,st,hk2,rfl,b0,G,p,L⟩:=hrel;by_cases x:r<ss.length
     .obtain ⟨b2,o2,rfl,J,c,d⟩:=(P2.o.z L.o.B).at x;have hn1:=Q5.o r x;have Y:=R3.o r x;have hnb:¬b2=wr.1.size:=by omega
      by_cases C:ss[r].s.size<=65535
      .obtain ⟨U3,U4,HS16,HM8,HZ,m1,E2,hgt2⟩:=aEm x Y C G.o p.o;clear C p Y;generalize ss[r].s=tx at *;generalize ss[r].n=nu at *;have HX:=dB (jB.new wr #[.string tx,.int .i64 nu] 134);have hg2:=L.o.fresh;replace L:=dB (L.o.z (zF wr (.cells #[.string tx,.int .i64 nu] 134)));go_upto_region 23 with fail;generalize wr.alloc (.cells #[.string tx,.int .i64 nu] 134)=W at *;have hww:=L.o.B.size;have hW:=bB HX.o;clear hnb J c d;generalize wr.1.size=BY at *;clear wr;have Q:=dB (λm(h:Below W.1.size W m)=>(HX.o.z h).c2);obtain⟨x0,x1⟩:=HX.o.c2;go_region_held3 (λm=>m.cell? ⟨BY,0,none⟩=some (.string tx)/\m.cell? ⟨BY,1,none⟩=some (.int .i64 nu))
        (first|go_keep|exact k5|exact Q.o _ F|exact Q.o _ k1)
        (first
         |(go_at_call 57;refine(HS16.o _).mono ?_;rintro e w1 ⟨rfl,hb1⟩;have k1:Below W.1.size W w1:=aC gD.drew hb1)
         |(go_at_call 49;refine(HM8.o _).mono ?_;rintro e w2 ⟨rfl,J⟩;have F:Below W.1.size W w2:=aC k1 J;have hz2:=F.size)
         |(have q:=F;clear q;refine bP _ (by rfl) _ _ (by rfl) w.1.size _ st (U3++U4) (by rfl) (L.o.z F).R (by rfl) (by omega) (by have:=HZ.o;omega) ?_;intro v5 w5 t K D y O;have k5:=jB.c2 ((D BY (by omega) hg2).trans (HX.o.z F));have Z:=dB ((L.o.z F).app t D y K)))
       have hst5:(st++(U3++U4)).size<=150000000004+(r+1)*70000:=by have:=HZ.o;rw[Ka];omega
       clear t K D k5 y O m1 b0;generalize st++(U3++U4)=st5 at *;go_wp2;exact⟨⟨r+1,st5,by omega,by go_num,hst5,E2.o.1,E2.o.2,Z.o⟩,by simp[intOf];omega⟩
      .have E:cB (SB=ByteArray.empty):=HNS.o r x C;have hgt2:(ss[r].s.size:Int) > 65535:=by omega
       generalize ss[r].s=tx at *;generalize ss[r].n=nu at *;clear C p Y;go_wp2;go_ret;exact⟨by rw[E.o];rfl,aC L.o.B bC⟩
     .have HA:=dB (λj(h:j<ss.length)=>p.o j h (by omega));have E4:cB (st=HD++wF (f.take (k+1))):=dB (by rw[G.o,Ra (by omega),HE3.o,HQ1.o,HEQ.o];simp only[Wa]);have hst9:st.size<=100000024:=by rw[E4.o];exact HLE.o
      clear p G;go_wp2;exact⟨⟨k+1,st,by omega,by go_num,hst9,E4.o,HA2.o hok HA1.o HA.o,L.o.R,L.o.B⟩,by simp[intOf];omega⟩
   .have E:cB (SB=ByteArray.empty):=HNN.o hok;have hgt:(nm.size:Int) > 255:=by omega
    clear M;go_wp2;go_ret;exact⟨by rw[E.o];rfl,aC A bC⟩
  .have hall:∀i(h:i<f.length),xK f[i]:=λj h=>p.o j h (by omega);have E2:cB (st=SX):=by
    show _=_;rw[G.o,Ra (by omega),HX.o]
   have E3:cB (SB=SX++N4):=HOK.o hall;have HBK:cB (∀m,Below wr.1.size wr m->(convert 22 9 u5).run prog m=.ok (.string SX) m):=λm h=>by
    have:=BN (M.o.z h);rw[E2.o]at this;exact this
   have n1:¬(9223372036854775807<SX.size+N4.size):=by omega
   clear M hall p G E2 b0 hzx hz4;go_upto_region 26 with fail;go_region_held3 (λm=>(convert 22 9 u5).run prog m=.ok (.string SX) m)
    (first|go_keep|exact HBK.o _ k4|exact HBK.o _ gD.drew|exact HBK.o _ gD)
    (first
     |(go_at_call 166;refine(HCR.o _).mono ?_;rintro e w3 ⟨rfl,hb3⟩;subst hb3;have k3:Below wr.1.size wr wr.drew:=gD.drew)
     |(go_at_call 49;refine(HU4.o _).mono ?_;rintro e w4 ⟨rfl,hb4⟩;have k4:Below wr.1.size wr w4:=(by exact aC k3 hb4)))
   have B4:cB (Below w.1.size w w4):=aC A k4;go_wp2;go_ret;exact⟨by rw[E3.o];rfl,B4.o⟩
