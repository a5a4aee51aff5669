import Derived.Test.YtabgbmfcbobamaaGreatDoorJ04
import Derived.Deep.RegionHeld3
import Derived.Deep.DeepCutAuto
import Derived.Deep.CutBlock
set_option maxRecDepth 100000
set_option maxHeartbeats 8000000
namespace Go.Proofs.YtabgbmfcbobamaaGreatDoor
open Go.RowKit Tryz
def aCo (a:List dA):Prop:=∀i (h:i<a.length),a[i].name.size<=1000000000/\a[i].m9.length<=2000000/\a[i].s9.length<=2000000/\(∀j (b:j<a[i].m9.length),a[i].m9[j].s.size<=1000000000)/\(∀j (b:j<a[i].s9.length),a[i].s9[j].s.size<=1000000000)
theorem su (x b a:Int):xA x b a=decide (b<=x/\x<=a):=by
 unfold xA;by_cases c:b<=x<;>by_cases d:x<=a<;>simp[c,d]
theorem KE (a:List dA) (k:Nat):(iC (a.take k)).size<=(iC a).size:=by
 have:=zI (a.take k) (a.drop k);rw[Ya]at this;rw[this,Ga];omega
def aCt:Op:=Op.convert 9 22 (Operand.tmp 26)
structure PE (w W:World) (BX:Nat) (TC:Array Value) (u:Value) (st:ByteArray):Prop where
 R:oJ W w.heap.size u st
 N:u.ownBlock≠some BX
 X:eA W BX TC 100
 B:Below w.heap.size w W
section
variable {w W W':World} {BX:Nat} {TC:Array Value} {u v:Value} {st tx:ByteArray}
theorem PE.later (h:PE w W BX TC u st) (a:Below W.heap.size W W'):PE w W' BX TC u st:=⟨h.R.later a,h.N,h.X.later a,nA h.B a⟩
theorem QQ (h:oJ W w.heap.size u st):u.ownBlock≠some W.heap.size:=by
 obtain⟨g,a,-,b⟩:=h.lt;rw[a];exact fun e=>by have:=Jd e;omega
theorem PE.fresh (h:PE w W BX TC u st):u.ownBlock≠some W.heap.size:=QQ h.R
theorem PE.app (h:PE w W BX TC u st) (f:oJ W' w.heap.size v (st++tx)) (c:∀k,k<W.heap.size->u.ownBlock≠some k->W'.heap[k]?=W.heap[k]?) (b:v.ownBlock=u.ownBlock\/v.ownBlock=some W.heap.size) (a:Below w.heap.size W W'):PE w W' BX TC v (st++tx):=by
 have d:=aA h.X;refine⟨f,?_,(c BX d h.N).trans h.X,h.B.trans a⟩;rcases b with e|e
 ·rw[e];exact h.N
 ·rw[e];exact fun e=>by have:=Jd e;omega
end
theorem wh {a:List lA} {k:Nat} {st b:ByteArray} (h:k<a.length) (m:uY a[k].n) (f:a[k].s.size<=65535) (g:st=b++tC (a.take k)) (o:∀j (h:j<a.length),j<k->a[j].s.size<=65535):∃c d:ByteArray,Hid (∀W,Calls prog 29 #[.string a[k].s] W fun e i=>e=.returned (.string c)/\Below W.heap.size W i)/\Hid (∀W,Calls prog 26 #[.int .i64 8,.int .i64 a[k].n] W fun e i=>e=.returned (.string d)/\Below W.heap.size W i)/\Hid ((c++d).size<=70000)/\¬(9223372036854775807<c.size+d.size)/\Hid (st++(c++d)=b++tC (a.take (k+1))/\∀j (h:j<a.length),j<k+1->a[j].s.size<=65535)/\¬(a[k].s.size:Int) > 65535:=by
 have q:=oD a[k].s;have r:=iA 8 a[k].n;refine⟨_,_,fun W=>pK a[k].s W (by omega),fun W=>aC 8 a[k].n W (by omega) m.1 m.2,bA (by rw[Ga];omega),by omega,⟨by rw[fZ a k h,g,vX,Gb],fun j p t=>?_⟩,by omega⟩;rcases Rc j k with l|l
 ·exact o j p l
 ·obtain rfl:j=k:=by omega
  exact f
theorem bt (g l:Int) (a:Option Addr) (S:Nat) (f:List dA) (w:World) (hf:oB w a f) (hB:aCo f) (hR:WJ f) (hl:uY g) (hno:uY l) (hlen:f.length<=2000000) (hz:(iC f).size<=100000000):
 Calls prog 113 #[.int .i64 g,.agg #[.int .i64 l,.slice a f.length S]] w fun e m=>e=.returned (.string (xE g l f))/\Below w.heap.size w m:=by
 have HW1:Hid (∀W,Calls prog 25 #[.int .i64 g,.int .i64 0,.int .i64 1000000000000000] W fun e m=>e=.returned (.bool (decide (0<=g/\g<=1000000000000000)))/\m=W):=fun W=>by have:=hC g 0 1000000000000000 W;rw[su]at this;exact this
 by_cases c1:¬(0<=g/\g<=1000000000000000)
 ·have E:Hid (xE g l f=ByteArray.empty):=lX fun h=>c1 ⟨h.1,h.2.1⟩;rw[E.out];rw[show decide (0<=g/\g<=1000000000000000)=false from Bc c1]at HW1;clear hf hB c1 hR hl hno;go_enter func113,ntmps113;go_wp2_with fail;refine(HW1.out _).mono ?_;rintro e w1 ⟨rfl,hw⟩;replace hw:=hw.symm;subst hw;go_wp2;go_ret;exact⟨rfl,cA _ _⟩
 replace c1:=Classical.not_not.1 c1;rw[Zb c1]at HW1;have HF:Hid (oB w a f):=hf;have HB:Hid (aCo f):=hB;have HR:Hid (WJ f):=hR;have HU1:Hid (∀W,Calls prog 26 #[.int .i64 8,.int .i64 g] W fun e m=>e=.returned (.string (fA 8 g))/\Below W.heap.size W m):=fun W=>aC 8 g W (by omega) hl.1 hl.2;have HU2:Hid (∀W,Calls prog 26 #[.int .i64 8,.int .i64 l] W fun e m=>e=.returned (.string (fA 8 l))/\Below W.heap.size W m):=fun W=>aC 8 l W (by omega) hno.1 hno.2;have HU3:Hid (∀W,Calls prog 26 #[.int .i64 4,.int .i64 (f.length:Nat)] W fun e m=>e=.returned (.string (fA 4 (f.length:Nat)))/\Below W.heap.size W m):=fun W=>aC 4 (f.length:Nat) W (by omega) (by omega) (by omega);have hz1:=iA 8 g;have hz2:=iA 8 l;have hz3:=iA 4 (f.length:Nat);have hzx:(gH g l f).size=24+(iC f).size:=by unfold gH;rw[Ga,CH]
 have HX:Hid (gH g l f=tf++fA 8 g++fA 8 l++fA 4 (f.length:Nat)++iC f):=rfl;have HOK:Hid ((∀i (h:i<f.length),fH f[i])->xE g l f=gH g l f++fA 4 (bG (gH g l f):Nat)):=fun h=>nR ⟨c1.1,c1.2,h⟩;have HNO:Hid (∀k (h:k<f.length),¬fH f[k]->xE g l f=ByteArray.empty):=fun k h h2=>kq h h2 g l;have HCR:Hid (∀W,Calls prog 142 #[.string (gH g l f)] W fun e m=>e=.returned (.int .i64 (bG (gH g l f):Nat))/\m=W):=fun W=>GJ _ W (by unfold maxLen;omega);have HU4:Hid (∀W,Calls prog 26 #[.int .i64 4,.int .i64 (bG (gH g l f):Nat)] W fun e m=>e=.returned (.string (fA 4 (bG (gH g l f):Nat)))/\Below W.heap.size W m):=fun W=>by
  have:=IL (gH g l f);exact aC 4 _ W (by omega) (by omega) (by omega)
 have hz4:=iA 4 (bG (gH g l f):Nat);generalize fA 4 (bG (gH g l f):Nat)=N4 at *;generalize bG (gH g l f)=CR at *;generalize gH g l f=SX at *;generalize xE g l f=SB at *;generalize fA 8 g=N1 at *;generalize fA 8 l=N2 at *;generalize fA 4 (f.length:Nat)=N3 at *;have hzd:(tf++N1++N2++N3).size=24:=by rw[Ga,Ga,Ga,hz1,hz2,hz3];rfl
 obtain⟨CV,CN,hcv,hcn⟩:=AM (tf++N1++N2++N3) (by omega);have HCN:Hid (∀w,oJ (CN w) w.heap.size (CV w) (tf++N1++N2++N3)/\Below w.heap.size w (CN w)):=hcn;unfold tf at hcv;obtain⟨HD,hHD⟩:∃H:ByteArray,H=tf++N1++N2++N3:=⟨_,rfl⟩
 rw[<-hHD]at HCN HX hzd;clear hf hB hR hl hno hcn hHD;go_enter func113,ntmps113;go_wp2_with fail;refine(HW1.out _).mono ?_;rintro e w1 ⟨rfl,hw⟩;replace hw:=hw.symm;subst hw;clear HW1;go_upto_region 3 with fail;have X6:Hid (eA (w.alloc (.cells #[.int .i64 l,.slice a f.length S] 51)) w.heap.size #[.int .i64 l,.slice a f.length S] 51):=heap_alloc_new _ _;have B0:Hid (Below w.heap.size w (w.alloc (.cells #[.int .i64 l,.slice a f.length S] 51))):=cA _ _;generalize w.alloc (.cells #[.int .i64 l,.slice a f.length S] 51)=w0 at *;have Q:Hid (∀m,Below w0.heap.size w0 m->m.cell? ⟨w.heap.size,0,none⟩=some (.int .i64 l)/\m.cell? ⟨w.heap.size,1,none⟩=some (.slice a f.length S)):=fun m h=>by
  have q:=X6.out.later h;exact⟨q.cell 0,q.cell 1⟩
 obtain⟨x0,x1⟩:=Q.out w0 (Below.refl _ _);go_cut [5] (fun s wx=>oJ wx w0.heap.size s HD/\Below w0.heap.size w0 wx)
 case first=>
  rw[show Op.convert 9 22 (Operand.tmp 26)=aCt from rfl];have hop:aCt=Op.convert 9 22 (Operand.tmp 26):=rfl;go_region_held3 (fun m=>m.cell? ⟨w.heap.size,0,none⟩=some (.int .i64 l)/\m.cell? ⟨w.heap.size,1,none⟩=some (.slice a f.length S))
   (first|go_keep|exact Q.out _ (nA k4 (HCN.out _).2)|exact Q.out _ k4|exact Q.out _ k3|exact Q.out _ r)
   (first
    |(go_at_call 26;(fail_if_success (have q:=r));refine(HU1.out _).mono ?_;rintro e w2 ⟨rfl,J⟩;have r:Below w0.heap.size w0 w2:=(by exact nA (Below.refl _ _).drew J))
    |(go_at_call 26;have q:=r;clear q;(fail_if_success (have q:=k3));refine(HU2.out _).mono ?_;rintro e w3 ⟨rfl,hb3⟩;have k3:Below w0.heap.size w0 w3:=(by exact nA r hb3))
    |(go_at_call 26;have q:=k3;clear q;refine(HU3.out _).mono ?_;rintro e w4 ⟨rfl,hb4⟩;have k4:Below w0.heap.size w0 w4:=(by exact nA k3 hb4)))
  all_goals(go_wp2_with fail;go_meet)
  all_goals exact⟨(HCN.out _).1.mono k4.size,nA k4 (HCN.out _).2⟩
 obtain⟨hrow0,hbx⟩:=hcut;rename World=>w5;have B5:Hid (Below w.heap.size w w5):=nA B0.out hbx;have HBL:Hid (oJ w5 w.heap.size u5 HD):=hrow0.mono B0.out.size;have HK5:Hid (w5.cell? ⟨w.heap.size,1,none⟩=some (.slice a f.length S)):=(Q.out w5 hbx).2;have y1:=HK5.out;clear x0 x1 Q X6 hrow0 hbx B0 HU1 HU2 HU3 HK5 HCN hcv;go_wp2;go_loopw [5,31] (fun P i wr=>∃(k:Nat) (st:ByteArray),k<=f.length/\i=.int .i64 k/\st.size<=100000024/\Hid (st=HD++iC (f.take k))/\Hid (∀j (h:j<f.length),j<k->fH f[j])/\Hid (oJ wr w.heap.size P st)/\Below w.heap.size w wr) (fun _ i _=>f.length-(intOf i).toNat)
 case atStart=>exact⟨0,HD,La _,rfl,by omega,bA (by simp[iC]),fun j _ h=>absurd h (by omega),HBL.out,B5.out⟩
 case round=>
  obtain⟨k,st,hk,rfl,b0,G,p,M,A⟩:=hrel;by_cases V:k<f.length
  ·obtain⟨b,o,a1,T,a2,U,rfl,hb,e0,e1,e2,e3,p1,p2⟩:=HF.out.at V;obtain⟨q1,q2,q3,q4,q5⟩:=HB.out k V;obtain⟨r1,r2,r3⟩:=HR.out k V;have d0:wr.cell? ⟨b,o+k*4,none⟩=some (.string f[k].name):=(A.cell hb).trans e0;have d1:wr.cell? ⟨b,o+k*4+1,none⟩=some (.int .i64 f[k].l9):=(A.cell hb).trans e1;have d2:wr.cell? ⟨b,o+k*4+2,none⟩=some (.slice a1 f[k].m9.length T):=(A.cell hb).trans e2;have d3:wr.cell? ⟨b,o+k*4+3,none⟩=some (.slice a2 f[k].s9.length U):=(A.cell hb).trans e3;have P1:Hid (yA w a1 f[k].m9):=p1;have P2:Hid (yA w a2 f[k].s9):=p2;have Q4:Hid (∀j (h':j<f[k].m9.length),f[k].m9[j].s.size<=1000000000):=q4;have Q5:Hid (∀j (h':j<f[k].s9.length),f[k].s9[j].s.size<=1000000000):=q5;have R2:Hid (RR f[k].m9):=r2;have R3:Hid (RR f[k].s9):=r3;have HS8:Hid (∀W,Calls prog 28 #[.string f[k].name] W fun e m=>e=.returned (.string (oK f[k].name))/\Below W.heap.size W m):=fun W=>bN f[k].name W q1;have HN8:Hid (∀W,Calls prog 26 #[.int .i64 8,.int .i64 f[k].l9] W fun e m=>e=.returned (.string (fA 8 f[k].l9))/\Below W.heap.size W m):=fun W=>aC 8 _ W (by omega) r1.1 r1.2;have HN4:Hid (∀W,Calls prog 26 #[.int .i64 4,.int .i64 (f[k].m9.length:Nat)] W fun e m=>e=.returned (.string (fA 4 (f[k].m9.length:Nat)))/\Below W.heap.size W m):=fun W=>aC 4 _ W (by omega) (by omega) (by omega);have HN5:Hid (∀W,Calls prog 26 #[.int .i64 4,.int .i64 (f[k].s9.length:Nat)] W fun e m=>e=.returned (.string (fA 4 (f[k].s9.length:Nat)))/\Below W.heap.size W m):=fun W=>aC 4 _ W (by omega) (by omega) (by omega);have hq1:=mE f[k].name;have hq2:=iA 8 f[k].l9;have hq3:=iA 4 (f[k].m9.length:Nat);have hq4:=iA 4 (f[k].s9.length:Nat);have HEQ:Hid (iC (f.take (k+1))=iC (f.take k)++(oK f[k].name++fA 8 f[k].l9++fA 4 (f[k].m9.length:Nat)++tC f[k].m9++fA 4 (f[k].s9.length:Nat)++tC f[k].s9)):=by show _=_;rw[gZ f k V];rfl
   have HLE:Hid ((HD++iC (f.take (k+1))).size<=100000024):=by show _<=_;have:=KE f (k+1);rw[Ga];omega
   have HA2:Hid (f[k].name.size<=255->JG f[k].m9->JG f[k].s9->∀j (h:j<f.length),j<k+1->fH f[j]):=fun z1 z2 z3 j h hj=>by
    rcases Rc j k with h1|h1
    ·exact p.out j h h1
    ·obtain rfl:j=k:=by omega
     exact⟨z1,z2,z3⟩
   have HNN:Hid (¬f[k].name.size<=255->SB=ByteArray.empty):=fun z=>HNO.out k V fun hh=>z hh.1;have HNM:Hid (∀j (h:j<f[k].m9.length),¬f[k].m9[j].s.size<=65535->SB=ByteArray.empty):=fun j h z=>HNO.out k V fun hh=>z (hh.2.1 j h);have HNS:Hid (∀j (h:j<f[k].s9.length),¬f[k].s9[j].s.size<=65535->SB=ByteArray.empty):=fun j h z=>HNO.out k V fun hh=>z (hh.2.2 j h);have hnb:¬b=wr.heap.size:=by have:=A.size;omega
   clear e0 e1 e2 e3 p1 p2 q4 q5 r1 r2 r3 p HNO;generalize oK f[k].name=S1 at *;generalize fA 8 f[k].l9=S2 at *;generalize fA 4 (f[k].m9.length:Nat)=S3 at *;generalize fA 4 (f[k].s9.length:Nat)=S4 at *;generalize f[k].name=nm at *;generalize f[k].l9=li at *;generalize f[k].m9=I at *;generalize f[k].s9=ss at *;by_cases hok:nm.size<=255
   ·have hgt:¬(nm.size:Int) > 255:=by omega
    have a0:Hid (PE w (wr.alloc (.cells #[.string nm,.int .i64 li,.slice a1 I.length T,.slice a2 ss.length U] 100)) wr.heap.size #[.string nm,.int .i64 li,.slice a1 I.length T,.slice a2 ss.length U] u5 st):=⟨M.out.later (cA _ _),QQ M.out,eA.new _ _ _,nA A (cA _ _)⟩
    have hz:S1.size+S2.size+S3.size<=1000000013:=by omega
    have HQ:=bA (⟨hq1,hq2,hq3,hq4⟩:_/\_/\_/\_);have n1:¬(9223372036854775807<S1.size+S2.size):=by omega
    have n2:¬(9223372036854775807<S1.size+S2.size+S3.size):=by omega
    have HZ:=bA hz;clear M hq1 hq2 hq3 hq4 hz;go_upto_region 9 with fail;generalize wr.alloc (.cells #[.string nm,.int .i64 li,.slice a1 I.length T,.slice a2 ss.length U] 100)=W at *;have hww:=a0.out.B.size;clear hnb d0 d1 d2 d3 hb A;generalize wr.heap.size=BX at *;clear wr;have Q:=bA (fun m (h:Below W.heap.size W m)=>(a0.out.X.later h).c4);obtain⟨x0,x1,x2,x3⟩:=a0.out.X.c4;go_cut [5] (fun P wx=>PE w wx BX #[.string nm,.int .i64 li,.slice a1 I.length T,.slice a2 ss.length U] P (st++(S1++S2++S3)))
    case first=>
     go_region_held3 (fun m=>m.cell? ⟨BX,0,none⟩=some (.string nm)/\m.cell? ⟨BX,1,none⟩=some (.int .i64 li)/\m.cell? ⟨BX,2,none⟩=some (.slice a1 I.length T)/\m.cell? ⟨BX,3,none⟩=some (.slice a2 ss.length U))
      (first|go_keep|exact k5|exact Q.out _ k3|exact Q.out _ r|exact Q.out _ k1)
      (first
       |(go_at_call 28;refine(HS8.out _).mono ?_;rintro e w1 ⟨rfl,hb1⟩;have k1:Below W.heap.size W w1:=nA (Below.refl _ _).drew hb1)
       |(go_at_call 26;(fail_if_success (have q:=r));refine(HN8.out _).mono ?_;rintro e w2 ⟨rfl,J⟩;have r:Below W.heap.size W w2:=nA k1 J)
       |(go_at_call 26;have q:=r;clear q;refine(HN4.out _).mono ?_;rintro e w3 ⟨rfl,hb3⟩;have k3:Below W.heap.size W w3:=nA r hb3;have hz3:=k3.size)
       |(have q:=k3;clear q;refine uL _ (by rfl) _ _ (by rfl) w.heap.size _ st (S1++S2++S3) (by rfl) (a0.out.later k3).R (by rfl) (by omega) (by have:=HZ.out;rw[Ga,Ga];omega) ?_;intro v5 w5 t K D y O;have Z:=bA ((a0.out.later k3).app t D y K);have k5:=Z.out.X.c4))
     all_goals(go_wp2_with fail;go_meet)
     all_goals exact Z.out
    rename World=>w5;have hs1:(st++(S1++S2++S3)).size<=1200000000:=by have:=HZ.out;rw[Ga,Ga,Ga];omega
    have HQ1:Hid (st++(S1++S2++S3)=HD++iC (f.take k)++(S1++S2++S3)):=bA (by rw[G.out]);have PP:=bA hcut;obtain⟨-,-,y2,y3⟩:=hcut.X.c4;clear hcut a0 Q x0 x1 x2 x3 n1 n2 G b0;generalize st++(S1++S2++S3)=st1 at *;obtain⟨TC,hTC⟩:∃TC:Array Value,TC=#[.string nm,.int .i64 li,.slice a1 I.length T,.slice a2 ss.length U]:=⟨_,rfl⟩
    rw[<-hTC]at PP;have HTC:=bA hTC;clear hTC;go_upto_block 2 with fail;clear y2 y3;go_cut [5] (fun P wx=>∃st,st=st1++tC I/\(∀j (h:j<I.length),I[j].s.size<=65535)/\PE w wx BX TC P st/\st.size<=150000000000)
    case first=>
     go_wp2_with fail;go_loopw [5,56] (fun P i wr=>∃(r:Nat) (st:ByteArray),r<=I.length/\i=.int .i64 r/\st.size<=1200000000+r*70000/\Hid (st=st1++tC (I.take r))/\Hid (∀j (h:j<I.length),j<r->I[j].s.size<=65535)/\Hid (PE w wr BX TC P st)) (fun _ i _=>I.length-(intOf i).toNat)
     case atStart=>exact⟨0,st1,La _,rfl,by omega,bA (by simp[tC]),fun j _ h=>absurd h (by omega),PP.out⟩
     case round=>
      obtain⟨r,st,hk2,rfl,b0,G,p,L⟩:=hrel;by_cases x:r<I.length
      ·obtain⟨b2,o2,rfl,J,c,d⟩:=(P1.out.later L.out.B).at x;have hn1:=Q4.out r x;have Y:=R2.out r x;have hnb:¬b2=wr.heap.size:=by omega
       by_cases C:I[r].s.size<=65535
       ·obtain⟨U3,U4,HS16,HM8,HZ,m1,E2,hgt2⟩:=wh x Y C G.out p.out;clear C p Y;generalize I[r].s=tx at *;generalize I[r].n=nu at *;have HX:=bA (eA.new wr #[.string tx,.int .i64 nu] 107);have hg2:=L.out.fresh;replace L:=bA (L.out.later (cA wr (.cells #[.string tx,.int .i64 nu] 107)));go_upto_region 15 with fail;generalize wr.alloc (.cells #[.string tx,.int .i64 nu] 107)=W at *;have hww:=L.out.B.size;have hW:=aA HX.out;clear hnb J c d;generalize wr.heap.size=BY at *;clear wr;have Q:=bA (fun m (h:Below W.heap.size W m)=>(HX.out.later h).c2);obtain⟨x0,x1⟩:=HX.out.c2;go_region_held3 (fun m=>m.cell? ⟨BY,0,none⟩=some (.string tx)/\m.cell? ⟨BY,1,none⟩=some (.int .i64 nu))
         (first|go_keep|exact k5|exact Q.out _ F|exact Q.out _ k1)
         (first
          |(go_at_call 29;refine(HS16.out _).mono ?_;rintro e w1 ⟨rfl,hb1⟩;have k1:Below W.heap.size W w1:=nA (Below.refl _ _).drew hb1)
          |(go_at_call 26;refine(HM8.out _).mono ?_;rintro e w2 ⟨rfl,J⟩;have F:Below W.heap.size W w2:=nA k1 J;have hz2:=F.size)
          |(have q:=F;clear q;refine uL _ (by rfl) _ _ (by rfl) w.heap.size _ st (U3++U4) (by rfl) (L.out.later F).R (by rfl) (by omega) (by have:=HZ.out;omega) ?_;intro v5 w5 t K D y O;have k5:=eA.c2 ((D BY (by omega) hg2).trans (HX.out.later F));have Z:=bA ((L.out.later F).app t D y K)))
        have hst5:(st++(U3++U4)).size<=1200000000+(r+1)*70000:=by have:=HZ.out;rw[Ga];omega
        clear t K D k5 y O m1 b0;generalize st++(U3++U4)=st5 at *;go_wp2;exact⟨⟨r+1,st5,by omega,by go_num,hst5,E2.out.1,E2.out.2,Z.out⟩,by simp[intOf];omega⟩
       ·have E:Hid (SB=ByteArray.empty):=HNM.out r x C;have hgt2:(I[r].s.size:Int) > 65535:=by omega
        generalize I[r].s=tx at *;generalize I[r].n=nu at *;clear C p Y;go_wp2;go_ret;exact⟨by rw[E.out];rfl,nA L.out.B (cA _ _)⟩
      ·have HA:=bA (fun j (h:j<I.length)=>p.out j h (by omega));have E:Hid (st=st1++tC I):=bA (by rw[G.out,Ua (by omega)]);have hs9:st.size<=150000000000:=by omega
       clear p G;go_wp2;go_meet;exact⟨st,E.out,HA.out,L.out,hs9⟩
    obtain⟨st2,hE,hA,hP,hz2⟩:=hcut;rename World=>w6;have HE1:=bA hE;have HA1:=bA hA;have P6:=bA hP;have X6:=bA hP.X;rw[HTC.out]at X6;obtain⟨-,-,-,y3⟩:=X6.out.c4;clear hE hA hP PP;go_wp2_with fail;refine(HN5.out _).mono ?_;rintro e w7 ⟨rfl,hb7⟩;replace P6:=bA (P6.out.later hb7);replace X6:=bA (X6.out.later hb7);have hw7:=P6.out.B.size;clear hb7 y3;go_wp2_with(at_builtin;refine uH _ rfl _ _ rfl w.heap.size _ st2 S4 rfl P6.out.R rfl hw7 (by have:=HQ.out.2.2.2;omega) ?_;intro v5 w8 t K D y O;have PP:=bA (P6.out.app t D y K);have X8:=bA ((D BX (aA P6.out.X) P6.out.N).trans X6.out);clear t K D y O;have y3:=eA.cell X8.out 3);have HE3:Hid (st2++S4=st1++tC I++S4):=bA (by rw[HE1.out]);have hs3':(st2++S4).size<=150000000004:=by have:=HQ.out.2.2.2;rw[Ga];omega
    clear HE1 hz2 P6 X6;generalize st2++S4=st3 at *;go_wp2;clear y3 X8;go_loopw [5,83] (fun P i wr=>∃(r:Nat) (st:ByteArray),r<=ss.length/\i=.int .i64 r/\st.size<=150000000004+r*70000/\Hid (st=st3++tC (ss.take r))/\Hid (∀j (h:j<ss.length),j<r->ss[j].s.size<=65535)/\Hid (PE w wr BX TC P st)) (fun _ i _=>ss.length-(intOf i).toNat)
    case atStart=>exact⟨0,st3,La _,rfl,by omega,bA (by simp[tC]),fun j _ h=>absurd h (by omega),PP.out⟩
    case round=>
     obtain⟨r,st,hk2,rfl,b0,G,p,L⟩:=hrel;by_cases x:r<ss.length
     ·obtain⟨b2,o2,rfl,J,c,d⟩:=(P2.out.later L.out.B).at x;have hn1:=Q5.out r x;have Y:=R3.out r x;have hnb:¬b2=wr.heap.size:=by omega
      by_cases C:ss[r].s.size<=65535
      ·obtain⟨U3,U4,HS16,HM8,HZ,m1,E2,hgt2⟩:=wh x Y C G.out p.out;clear C p Y;generalize ss[r].s=tx at *;generalize ss[r].n=nu at *;have HX:=bA (eA.new wr #[.string tx,.int .i64 nu] 109);have hg2:=L.out.fresh;replace L:=bA (L.out.later (cA wr (.cells #[.string tx,.int .i64 nu] 109)));go_upto_region 23 with fail;generalize wr.alloc (.cells #[.string tx,.int .i64 nu] 109)=W at *;have hww:=L.out.B.size;have hW:=aA HX.out;clear hnb J c d;generalize wr.heap.size=BY at *;clear wr;have Q:=bA (fun m (h:Below W.heap.size W m)=>(HX.out.later h).c2);obtain⟨x0,x1⟩:=HX.out.c2;go_region_held3 (fun m=>m.cell? ⟨BY,0,none⟩=some (.string tx)/\m.cell? ⟨BY,1,none⟩=some (.int .i64 nu))
        (first|go_keep|exact k5|exact Q.out _ F|exact Q.out _ k1)
        (first
         |(go_at_call 29;refine(HS16.out _).mono ?_;rintro e w1 ⟨rfl,hb1⟩;have k1:Below W.heap.size W w1:=nA (Below.refl _ _).drew hb1)
         |(go_at_call 26;refine(HM8.out _).mono ?_;rintro e w2 ⟨rfl,J⟩;have F:Below W.heap.size W w2:=nA k1 J;have hz2:=F.size)
         |(have q:=F;clear q;refine uL _ (by rfl) _ _ (by rfl) w.heap.size _ st (U3++U4) (by rfl) (L.out.later F).R (by rfl) (by omega) (by have:=HZ.out;omega) ?_;intro v5 w5 t K D y O;have k5:=eA.c2 ((D BY (by omega) hg2).trans (HX.out.later F));have Z:=bA ((L.out.later F).app t D y K)))
       have hst5:(st++(U3++U4)).size<=150000000004+(r+1)*70000:=by have:=HZ.out;rw[Ga];omega
       clear t K D k5 y O m1 b0;generalize st++(U3++U4)=st5 at *;go_wp2;exact⟨⟨r+1,st5,by omega,by go_num,hst5,E2.out.1,E2.out.2,Z.out⟩,by simp[intOf];omega⟩
      ·have E:Hid (SB=ByteArray.empty):=HNS.out r x C;have hgt2:(ss[r].s.size:Int) > 65535:=by omega
       generalize ss[r].s=tx at *;generalize ss[r].n=nu at *;clear C p Y;go_wp2;go_ret;exact⟨by rw[E.out];rfl,nA L.out.B (cA _ _)⟩
     ·have HA:=bA (fun j (h:j<ss.length)=>p.out j h (by omega));have E4:Hid (st=HD++iC (f.take (k+1))):=bA (by rw[G.out,Ua (by omega),HE3.out,HQ1.out,HEQ.out];simp only[Gb]);have hst9:st.size<=100000024:=by rw[E4.out];exact HLE.out
      clear p G;go_wp2;exact⟨⟨k+1,st,by omega,by go_num,hst9,E4.out,HA2.out hok HA1.out HA.out,L.out.R,L.out.B⟩,by simp[intOf];omega⟩
   ·have E:Hid (SB=ByteArray.empty):=HNN.out hok;have hgt:(nm.size:Int) > 255:=by omega
    clear M;go_wp2;go_ret;exact⟨by rw[E.out];rfl,nA A (cA _ _)⟩
  ·have hall:∀i (h:i<f.length),fH f[i]:=fun j h=>p.out j h (by omega);have E2:Hid (st=SX):=by
    show _=_;rw[G.out,Ua (by omega),HX.out]
   have E3:Hid (SB=SX++N4):=HOK.out hall;have HBK:Hid (∀m,Below wr.heap.size wr m->(convert 22 9 u5).run prog m=.ok (.string SX) m):=fun m h=>by
    have:=zY (M.out.later h);rw[E2.out]at this;exact this
   have n1:¬(9223372036854775807<SX.size+N4.size):=by omega
   clear M hall p G E2 b0 hzx hz4;go_upto_region 26 with fail;go_region_held3 (fun m=>(convert 22 9 u5).run prog m=.ok (.string SX) m)
    (first|go_keep|exact HBK.out _ k4|exact HBK.out _ (Below.refl _ _).drew|exact HBK.out _ (Below.refl _ _))
    (first
     |(go_at_call 142;refine(HCR.out _).mono ?_;rintro e w3 ⟨rfl,hb3⟩;subst hb3;have k3:Below wr.heap.size wr wr.drew:=(Below.refl _ _).drew)
     |(go_at_call 26;refine(HU4.out _).mono ?_;rintro e w4 ⟨rfl,hb4⟩;have k4:Below wr.heap.size wr w4:=(by exact nA k3 hb4)))
   have B4:Hid (Below w.heap.size w w4):=nA A k4;go_wp2;go_ret;exact⟨by rw[E3.out];rfl,B4.out⟩
