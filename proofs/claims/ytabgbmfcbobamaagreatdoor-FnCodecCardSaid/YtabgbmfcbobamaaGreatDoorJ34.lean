import Derived.Test.YtabgbmfcbobamaaGreatDoorJ29
set_option maxRecDepth 100000
set_option maxHeartbeats 4000000
namespace Go.Proofs.YtabgbmfcbobamaaGreatDoor
open Go.RowKit Tryz
theorem jd (x b a:Int):xA x b a=decide (b<=x/\x<=a):=by
 unfold xA;by_cases c:b<=x<;>by_cases d:x<=a<;>simp[c,d]
theorem SD {x:ByteArray}:(x.toList==[])=decide (x.size=0):=by
 rw[ByteArray.toList_eq];cases h:x.data.toList with
 |nil=>
  have b:x.size=0:=by have:x.data.toList.length=0:=by rw[h];rfl
                      simpa using this
  simp[b]
 |cons a l=>
  have b:x.size≠0:=by have:x.data.toList.length=l.length+1:=by rw[h];rfl
                      simp at this;omega
  simp[b]
theorem bz (d c:Int) (a b:ByteArray) (w:World) (s:a.size<=1000000000) (t:b.size<=1000000000):
 Calls prog 27 #[.agg #[.int .i64 d,.string a,.string b,.int .i64 c]] w fun e r=>e=.returned (.bool (aq ⟨d,a,b,c⟩))/\Below w.heap.size w r:=by
 by_cases o:a.size > 255
 ·have E:Hid (aq ⟨d,a,b,c⟩=false):=bA (mY fun h=>by have:=h.1;simp only at this;omega);have j:(a.size:Int) > 255:=by omega
  go_enter func27,ntmps27;go_wp2;go_ret;exact⟨jA E.out.symm,cA _ _⟩
 have j:¬(a.size:Int) > 255:=by omega
 by_cases p:b.size > 65535
 ·have E:Hid (aq ⟨d,a,b,c⟩=false):=bA (mY fun h=>by have:=h.2.1;simp only at this;omega);have k:(b.size:Int) > 65535:=by omega
  go_enter func27,ntmps27;go_wp2;go_ret;exact⟨jA E.out.symm,cA _ _⟩
 have k:¬(b.size:Int) > 65535:=by omega
 by_cases l:d=1
 ·subst l;have E:Hid (aq ⟨1,a,b,c⟩=(c==0)):=bA (by
   by_cases h:c=0
   ·rw[QN (show mK ⟨1,a,b,c⟩ from⟨by simp only;omega,by simp only;omega,Ca ⟨rfl,h⟩⟩)];simp[h]
   ·rw[mY (show ¬mK ⟨1,a,b,c⟩ from fun f=>f.2.2.elim (fun g=>h g.2) (fun g=>g.elim (fun g=>absurd g.1 (show ¬(1:Int)=2 by decide)) (fun g=>absurd g (show ¬(1:Int)=3 by decide))))];simp[h])
  go_enter func27,ntmps27;go_wp2;go_ret;exact⟨jA E.out.symm,cA _ _⟩
 by_cases m:d=2
 ·subst m;by_cases i:a.size=0
  ·have E:Hid (aq ⟨2,a,b,c⟩=(b.toList==[])):=bA (by
    rw[SD];by_cases h:b.size=0
    ·rw[QN (show mK ⟨2,a,b,c⟩ from⟨by simp only;omega,by simp only;omega,Ja (Ca ⟨rfl,i,h⟩)⟩),Zb h]
    ·rw[mY (show ¬mK ⟨2,a,b,c⟩ from fun f=>f.2.2.elim (fun g=>absurd g.1 (show ¬(2:Int)=1 by decide)) (fun g=>g.elim (fun g=>h g.2.2) (fun g=>absurd g (show ¬(2:Int)=3 by decide)))),Bc h])
   have q:(a.toList==[])=true:=by rw[SD];exact Zb i
   clear i o p;go_enter func27,ntmps27;go_wp2;go_ret;exact⟨jA (by rw[E.out];first|rfl|simp),cA _ _⟩
  ·have E:Hid (aq ⟨2,a,b,c⟩=false):=bA (mY fun f=>f.2.2.elim (fun g=>absurd g.1 (show ¬(2:Int)=1 by decide)) (fun g=>g.elim (fun g=>i g.2.1) (fun g=>absurd g (show ¬(2:Int)=3 by decide))));have q:(a.toList==[])=false:=by rw[SD];exact Bc i
   clear i o p;go_enter func27,ntmps27;go_wp2;go_ret;exact⟨jA E.out.symm,cA _ _⟩
 by_cases n:d=3
 ·subst n;have E:Hid (aq ⟨3,a,b,c⟩=true):=bA (QN ⟨by simp only;omega,by simp only;omega,Ja (Ja rfl)⟩);go_enter func27,ntmps27;go_wp2;go_ret;exact⟨jA E.out.symm,cA _ _⟩
 have E:Hid (aq ⟨d,a,b,c⟩=false):=bA (mY fun f=>f.2.2.elim (fun g=>l g.1) (fun g=>g.elim (fun g=>m g.1) (fun g=>n g)));go_enter func27,ntmps27;go_wp2;go_ret;exact⟨jA E.out.symm,cA _ _⟩
def rh (a:List lC):Prop:=∀i (h:i<a.length),a[i].n9.size<=1000000000/\a[i].text.size<=1000000000
def aGc:Op:=Op.convert 9 22 (Operand.tmp 24)
theorem GI (d:Int) (a:Option Addr) (p:Nat) (c:List lC) (w:World) (hf:gF w a c) (hB:rh c) (hR:MW c) (B:AC d) (hlen:c.length<=2000000):
 Calls prog 6 #[.agg #[.int .i64 d,.slice a c.length p]] w fun e f=>e=.returned (.string (zG d c))/\Below w.heap.size w f:=by
 have HW1:Hid (∀W,Calls prog 25 #[.int .i64 d,.int .i64 1,.int .i64 1000000000000000] W fun e f=>e=.returned (.bool (decide (1<=d/\d<=1000000000000000)))/\f=W):=fun W=>by have:=hC d 1 1000000000000000 W;rw[jd]at this;exact this
 have HW2:Hid (∀W,Calls prog 25 #[.int .i64 (c.length:Nat),.int .i64 1,.int .i64 500] W fun e f=>e=.returned (.bool (decide (1<=((c.length:Nat):Int)/\((c.length:Nat):Int)<=500)))/\f=W):=fun W=>by have:=hC (c.length:Nat) 1 500 W;rw[jd]at this;exact this
 have Q:Hid (decide (1<=d/\d<=1000000000000000)=false\/decide (1<=((c.length:Nat):Int)/\((c.length:Nat):Int)<=500)=false->zG d c=ByteArray.empty):=fun h=>sW fun hh=>by
  obtain⟨h1,h2,h3,h4,-⟩:=hh;rcases h with h|h<;>exact of_decide_eq_false h ⟨by omega,by omega⟩
 have HN2:Hid (decide (1<=d/\d<=1000000000000000)=true->decide (1<=((c.length:Nat):Int)/\((c.length:Nat):Int)<=500)=true->(1<=d/\d<=1000000000000000)/\1<=((c.length:Nat):Int)/\((c.length:Nat):Int)<=500):=fun h h'=>⟨Fe h,Fe h'⟩
 generalize decide (1<=d/\d<=1000000000000000)=d1 at *;generalize decide (1<=((c.length:Nat):Int)/\((c.length:Nat):Int)<=500)=d2 at *;go_enter func6,ntmps6;go_wp2_with fail;refine pD (HW1.out _) ?_;cases d1
 ·have E:=bA (Q.out (by simp));go_wp2;go_ret;exact⟨by rw[E.out];rfl,cA _ _⟩
 go_wp2_with fail;refine pD (HW2.out _) ?_;cases d2
 ·have E:=bA (Q.out (by simp));go_wp2;go_ret;exact⟨by rw[E.out];rfl,cA _ _⟩
 obtain⟨c1,c3⟩:=HN2.out (by simp) (by simp);clear HW1 HW2 Q HN2;have HF:Hid (gF w a c):=hf;have HB:Hid (rh c):=hB;have HR:Hid (MW c):=hR;have M:Hid (∀W,Calls prog 26 #[.int .i64 8,.int .i64 d] W fun e f=>e=.returned (.string (fA 8 d))/\Below W.heap.size W f):=fun W=>aC 8 d W (by omega) B.1 B.2;have L:Hid (∀W,Calls prog 26 #[.int .i64 2,.int .i64 (c.length:Nat)] W fun e f=>e=.returned (.string (fA 2 (c.length:Nat)))/\Below W.heap.size W f):=fun W=>aC 2 (c.length:Nat) W (by omega) (by omega) (by omega);have hz8:=iA 8 d;have hz2:=iA 2 (c.length:Nat);have HKB:Hid (zQ d c->zG d c=fA 8 d++fA 2 (c.length:Nat)++qF c):=fun h=>AG h;have HOK:Hid (dg c->zQ d c):=fun h=>⟨by omega,by omega,by omega,by omega,h⟩
 generalize fA 8 d=T at *;generalize fA 2 (c.length:Nat)=S at *;have hz10:(T++S).size=10:=by rw[Ga,hz8,hz2]
 obtain⟨CV,CN,hcv,hcn⟩:=AM (T++S) (by omega);have J:Hid _:=hcn;clear hf hB hR B hcn;go_upto_region 3 with fail;have X6:Hid (eA (w.alloc (.cells #[.int .i64 d,.slice a c.length p] 25)) w.heap.size #[.int .i64 d,.slice a c.length p] 25):=eA.new _ _ _;have B0:Hid (Below w.heap.size w (w.alloc (.cells #[.int .i64 d,.slice a c.length p] 25))):=cA _ _;generalize w.alloc (.cells #[.int .i64 d,.slice a c.length p] 25)=H at *;have A:Hid (∀f,Below H.heap.size H f->f.cell? ⟨w.heap.size,0,none⟩=some (.int .i64 d)/\f.cell? ⟨w.heap.size,1,none⟩=some (.slice a c.length p)):=fun f h=>by
  have q:=X6.out.later h;exact⟨q.cell 0,q.cell 1⟩
 obtain⟨x0,x1⟩:=A.out H (Below.refl _ _);go_cut [3] (fun s wx=>oJ wx H.heap.size s (T++S)/\Below H.heap.size H wx)
 case first=>
  rw[show Op.convert 9 22 (Operand.tmp 24)=aGc from rfl];have hop:aGc=Op.convert 9 22 (Operand.tmp 24):=rfl;go_region_held3 (fun f=>f.cell? ⟨w.heap.size,0,none⟩=some (.int .i64 d)/\f.cell? ⟨w.heap.size,1,none⟩=some (.slice a c.length p))
   (first|go_keep|exact A.out _ (nA k4 (J.out _).2)|exact A.out _ k4|exact A.out _ k3)
   (first
    |(go_at_call 26;(fail_if_success (have q:=k3));refine(M.out _).mono ?_;rintro e w3 ⟨rfl,U⟩;have k3:Below H.heap.size H w3:=(by exact nA (Below.refl _ _).drew U))
    |(go_at_call 26;have q:=k3;clear q;refine(L.out _).mono ?_;rintro e w4 ⟨rfl,V⟩;have k4:Below H.heap.size H w4:=(by exact nA k3 V)))
  all_goals(go_wp2_with fail;go_meet)
  all_goals exact⟨(J.out _).1.mono k4.size,nA k4 (J.out _).2⟩
 obtain⟨D,Y⟩:=hcut;rename World=>w5;have B5:Hid _:=nA B0.out Y;have HBL:Hid (oJ w5 w.heap.size u3 (T++S)):=D.mono B0.out.size;have HK5:Hid _:=fun f h=>A.out f (nA Y h);obtain⟨y0,y1⟩:=HK5.out w5 (Below.refl _ _);clear x0 x1 A X6 D Y B0 M L HK5 J hcv;go_wp2;go_loopw [3,5,29] (fun out _ i wr=>∃(k:Nat) (G:ByteArray),k<=c.length/\i=.int .i64 k/\G.size<=10+k*3000000000/\Hid (G=T++S++qF (c.take k))/\Hid (∀j (h:j<c.length),j<k->mK c[j])/\Hid (oJ wr w.heap.size out G)/\Below w.heap.size w wr) (fun _ _ i _=>c.length-(intOf i).toNat)
 case atStart=>
  exact⟨0,T++S,La _,rfl,by omega,by show _=_;simp[qF],fun j _ h=>absurd h (by omega),HBL.out,B5.out⟩
 case round=>
  obtain⟨k,G,hk,rfl,hst,HST,u,g,l⟩:=hrel;by_cases C:k<c.length
  ·obtain⟨b,o,rfl,hb,c0,c1,c2,c3⟩:=(HF.out.later l).at C;obtain⟨hn1,hn2⟩:=HB.out k C;obtain⟨b0,d0⟩:=HR.out k C;have v:Hid (∀W,Calls prog 27 #[.agg #[.int .i64 c[k].kind,.string c[k].n9,.string c[k].text,.int .i64 c[k].num]] W fun e f=>e=.returned (.bool (aq c[k]))/\Below W.heap.size W f):=fun W=>bz _ _ _ _ W hn1 hn2;by_cases y:mK c[k]
   ·rw[QN y]at v;have HK1:Hid (∀W,Calls prog 26 #[.int .i64 1,.int .i64 c[k].kind] W fun e f=>e=.returned (.string (fA 1 c[k].kind))/\Below W.heap.size W f):=fun W=>aC 1 _ W (by omega) b0.1 b0.2;have HS8:Hid _:=fun W=>bN c[k].n9 W hn1;have HS16:Hid _:=fun W=>pK c[k].text W hn2;have HN8:Hid (∀W,Calls prog 26 #[.int .i64 8,.int .i64 c[k].num] W fun e f=>e=.returned (.string (fA 8 c[k].num))/\Below W.heap.size W f):=fun W=>aC 8 _ W (by omega) d0.1 d0.2;have hq1:=iA 1 c[k].kind;have hq2:=mE c[k].n9;have hq3:=oD c[k].text;have hq4:=iA 8 c[k].num;have HA2:Hid (∀j (h:j<c.length),j<k+1->mK c[j]):=fun j h hj=>by
     rcases Rc j k with h1|h1
     ·exact u.out j h h1
     ·obtain rfl:j=k:=by omega
      exact y
    have HT:=ed c k C;have E2:Hid (G++(fA 1 c[k].kind++oK c[k].n9++nD c[k].text++fA 8 c[k].num)=T++S++qF (c.take (k+1))):=by show _=_;rw[HT,HST.out,GV,Gb]
    clear HT y u b0 d0;generalize fA 1 c[k].kind=m at *;generalize oK c[k].n9=n at *;generalize nD c[k].text=z at *;generalize fA 8 c[k].num=K at *;generalize c[k].kind=ki at *;generalize c[k].n9=te at *;generalize c[k].text=tx at *;generalize c[k].num=nu at *;have hq5:(m++n).size=m.size+n.size:=Ga;have hq6:(m++n++z).size=m.size+n.size+z.size:=by rw[Ga,hq5]
    have hq7:(m++n++z++K).size=m.size+n.size+z.size+K.size:=by rw[Ga,hq6]
    have hq8:(G++(m++n++z++K)).size=G.size+(m.size+n.size+z.size+K.size):=by rw[Ga,hq7]
    have n1:¬(9223372036854775807<m.size+n.size):=by omega
    have n2:¬(9223372036854775807<m.size+n.size+z.size):=by omega
    have n3:¬(9223372036854775807<m.size+n.size+z.size+K.size):=by omega
    have HQ:Hid (m.size=1/\n.size=1+te.size/\z.size=2+tx.size/\K.size=8):=⟨hq1,hq2,hq3,hq4⟩
    clear hq1 hq2 hq3 hq4;obtain⟨gv,hgv,hgv1,hgv2⟩:=g.out.lt;have P:=bA (eA.new wr #[.int .i64 ki,.string te,.string tx,.int .i64 nu] 31);have HBW:=bA (cA wr (.cells #[.int .i64 ki,.string te,.string tx,.int .i64 nu] 31));go_wp2_with fail;refine(v.out _).mono ?_;rintro e W ⟨rfl,r⟩;have A:=bA (fun f (h:Below W.heap.size W f)=>(P.out.later r).later h);have X:=nA HBW.out r;have R:=bA (Ud (g.out.later X) (nA l X));have hBX:=aA (P.out.later r);have hww:=R.out.2.size;have hngv:gv≠wr.heap.size:=by omega
    have HGV:=bA hgv;clear g P hb c0 c1 c2 c3 l r X HBW v hgv hgv1 hgv2;go_wp2_with fail;generalize wr.heap.size=I at *;clear wr;have x:Hid (∀f,Below W.heap.size W f->f.cell? ⟨I,0,none⟩=some (.int .i64 ki)/\f.cell? ⟨I,1,none⟩=some (.string te)/\f.cell? ⟨I,2,none⟩=some (.string tx)/\f.cell? ⟨I,3,none⟩=some (.int .i64 nu)):=fun f h=>⟨(A.out f h).cell 0,(A.out f h).cell 1,(A.out f h).cell 2,(A.out f h).cell 3⟩
    obtain⟨x0,x1,x2,x3⟩:=x.out W (Below.refl _ _);go_region_held3 (fun f=>f.cell? ⟨I,0,none⟩=some (.int .i64 ki)/\f.cell? ⟨I,1,none⟩=some (.string te)/\f.cell? ⟨I,2,none⟩=some (.string tx)/\f.cell? ⟨I,3,none⟩=some (.int .i64 nu))
     (first|go_keep|exact O|exact x.out _ t|exact x.out _ a0|exact x.out _ hc2|exact x.out _ Z)
     ((first
       |(go_at_call 26;(fail_if_success (have q:=Z));refine(HK1.out _).mono ?_;rintro e w1 ⟨rfl,hb1⟩;have Z:Below W.heap.size W w1:=(Below.refl _ W).drew.trans hb1)
       |(go_at_call 28;refine(HS8.out _).mono ?_;rintro e w2 ⟨rfl,hb2⟩;have hc2:=nA Z hb2)
       |(go_at_call 29;refine(HS16.out _).mono ?_;rintro e w3 ⟨rfl,U⟩;have a0:=nA hc2 U)
       |(go_at_call 26;have q:=a0;clear q;refine(HN8.out _).mono ?_;rintro e w4 ⟨rfl,V⟩;have t:=nA a0 V)
       |(have q:=t;clear q;refine NT _ (by rfl) _ _ (by rfl) w.heap.size _ G (m++n++z++K) (by rfl) (by exact R.out.1.later t) (by rfl) (by have:=t.size;omega) (by have:=HQ.out;omega) ?_;intro v5 w5 F hB5 hk5;have O:=OO (hk5 I (by have:=t.size;omega) (fun e=>hngv (Jd (HGV.out.symm.trans e)))) (x.out _ t))))
    have HO5:=bA (Ud F ((nA R.out.2 t).trans hB5));clear F hB5 hk5 O;have hst5:(G++(m++n++z++K)).size<=10+(k+1)*3000000000:=by have:=HQ.out;omega
    clear hq5 hq6 hq7 hq8 n1 n2 n3;generalize G++(m++n++z++K)=st5 at *;go_wp2;exact⟨⟨k+1,st5,by omega,by go_num,hst5,E2.out,HA2.out,HO5.out.1,HO5.out.2⟩,by simp[intOf];omega⟩
   ·have E:Hid _:=iu C y d;rw[mY y]at v;generalize c[k].kind=ki at *;generalize c[k].n9=te at *;generalize c[k].text=tx at *;generalize c[k].num=nu at *;clear y u g;go_wp2_with fail;refine(v.out _).mono ?_;rintro e W ⟨rfl,r⟩;have BW:Hid _:=nA (nA l (cA _ _)) r;clear r v;go_wp2;go_ret;exact⟨by rw[E.out];rfl,BW.out⟩
  ·have N:dg c:=fun j h=>u.out j h (by omega);have E2:Hid (G=zG d c):=by
    show _=_;rw[HST.out,Ua (by omega),HKB.out (HOK.out N)]
   have hbk:=zY g.out;rw[E2.out]at hbk;clear g N;go_wp2;go_ret;exact⟨rfl,l⟩
theorem aDs {a:List dA} (h:yz a) (k:ByteArray):rf (tA a k).s9/\(tA a k).m9.length<=1000000000/\(tA a k).s9.length<=1000000000:=by
 unfold tA;cases hg:xC (·.name) k a with
 |none=>exact⟨fun i h=>absurd h (by simp),by simp,by simp⟩
 |some t=>
  obtain⟨i,b,e⟩:=Ob (xW hg).1;have:=h i b;rw[e]at this;exact⟨this.2.2.1,this.2.2.2.1,this.2.2.2.2⟩
theorem IF (c:vB) (g:Int) (a:Option Addr) (k:Nat) (i:List dA) (b f:ByteArray) (w:World) (Z:oB w a i) (r:yz i) (z:i.length<=1000000000) (hn:b.size<=1048576) (hm:f.size<=1048576):
 Calls prog 88 #[iD c,.agg #[.int .i64 g,.slice a i.length k],.string b,.string f] w fun e d=>e=.returned (.tuple #[.int .i64 (cF c g i b f).1,.int .i64 (cF c g i b f).2])/\Below w.heap.size w d:=by
 have HO:Hid (∀W,Below w.heap.size w W->Calls prog 78 #[iD c,.agg #[.int .i64 g,.slice a i.length k]] W fun e d=>e=.returned (.bool (gB c g i))/\Below W.heap.size W d):=fun W V=>eE c g a k i W (Z.later V) r z;have G:Hid (∀W,Calls prog 81 #[.string b] W fun e d=>e=.returned (.bool (yB b))/\d=W):=fun W=>bE b W (by unfold maxLen;omega);have N:Hid (∀W,Calls prog 120 #[.string f] W fun e d=>e=.returned (.bool (cE f))/\Below W.heap.size W d):=fun W=>aJ f W (by omega);have C:Hid (∀W,Below w.heap.size w W->Calls prog 89 #[.agg #[.int .i64 g,.slice a i.length k],.string b] W fun e d=>zd d e (tA i b)/\Below W.heap.size W d):=fun W V=>yT g a k i b W (Z.later V) z;obtain⟨q1,q2,q3⟩:=aDs r b;have HC:Hid (∀W x y D E,yA W x (tA i b).m9->yA W y (tA i b).s9->Calls prog 130 #[iD c,.agg #[.string (tA i b).name,.int .i64 (tA i b).l9,.slice x (tA i b).m9.length D,.slice y (tA i b).s9.length E],.string f] W fun e d=>e=.returned (.tuple #[.int .i64 (qD c (tA i b) f).1,.int .i64 (qD c (tA i b) f).2])/\Below W.heap.size W d):=fun W x y D E K L=>FR c _ x y D E f W K L q1 q2 q3;have n:Hid (cF c g i b f=if (gB c g i&&yB b&&(f.toList.isEmpty||cE f))=true then qD c (tA i b) f else(-1,-1)):=rfl;clear Z r q1 q2 q3;unfold zd at C;unfold iD at *;generalize yB b=b1 at *;generalize cE f=b2 at *;generalize gB c g i=b0 at *;generalize tA i b=t at *;generalize cF c g i b f=o at *;generalize qD c t f=RV at *;go_enter func88,ntmps88;go_wp2_with fail;refine(HO.out _ (nA (cA _ _) (cA _ _))).mono ?_;rintro e s ⟨rfl,u⟩;have A:Hid (Below w.heap.size w s):=nA (nA (cA _ _) (cA _ _)) u;have R:Hid (eA s w.heap.size #[.int .i64 c.w,.int .i64 c.tl,.int .i64 c.ml,.int .i64 c.sh,.int .i64 c.ha,.int .i64 c.sg] 33):=bA (((eA.new _ _ _).alloc _).later u);have S:Hid (eA s (w.heap.size+1) #[.int .i64 g,.slice a i.length k] 51):=bA (by have:=(eA.new (w.alloc (.cells #[.int .i64 c.w,.int .i64 c.tl,.int .i64 c.ml,.int .i64 c.sh,.int .i64 c.ha,.int .i64 c.sg] 33)) #[.int .i64 g,.slice a i.length k] 51).later u;simpa using this);clear u HO;by_cases O:b0=false
 ·have j:Hid (o=(-1,-1)):=by show _=_;rw[n.out,O];rfl
  subst O;clear n;go_wp2;go_ret2;exact⟨bK (by rw[j.out]) (by rw[j.out]),A.out⟩
 have T:b0=true:=by simpa using O
 subst T;clear O;by_cases P:b1=false
 ·have j:Hid (o=(-1,-1)):=by show _=_;rw[n.out,P];simp
  subst P;clear n;go_wp2_with fail;refine(G.out _).mono ?_;rintro e m ⟨rfl,hw⟩;replace hw:=hw.symm;subst hw;go_wp2;go_ret2;exact⟨bK (by rw[j.out]) (by rw[j.out]),A.out⟩
 have U:b1=true:=by simpa using P
 subst U;clear P;by_cases X:f.toList.isEmpty=true
 ·have j:Hid (o=RV):=by show _=_;rw[n.out,X];rfl
  clear n;go_wp2_with fail;refine(G.out _).mono ?_;rintro e m ⟨rfl,hw⟩;replace hw:=hw.symm;subst hw;clear G N;have B:Hid (∀d,Below s.heap.size s d->d.cell? ⟨w.heap.size,0,none⟩=some (.int .i64 c.w)/\d.cell? ⟨w.heap.size,1,none⟩=some (.int .i64 c.tl)/\d.cell? ⟨w.heap.size,2,none⟩=some (.int .i64 c.ml)/\d.cell? ⟨w.heap.size,3,none⟩=some (.int .i64 c.sh)/\d.cell? ⟨w.heap.size,4,none⟩=some (.int .i64 c.ha)/\d.cell? ⟨w.heap.size,5,none⟩=some (.int .i64 c.sg)/\d.cell? ⟨w.heap.size+1,0,none⟩=some (.int .i64 g)/\d.cell? ⟨w.heap.size+1,1,none⟩=some (.slice a i.length k)):=fun d h=>by
   have q:=R.out.later h;have p:=S.out.later h;exact⟨q.cell 0,q.cell 1,q.cell 2,q.cell 3,q.cell 4,q.cell 5,p.cell 0,p.cell 1⟩
  obtain⟨x0,x1,x2,x3,x4,x5,y0,y1⟩:=B.out s (Below.refl _ _);go_upto_region 3 with fail;go_region_held3 (fun d=>d.cell? ⟨w.heap.size,0,none⟩=some (.int .i64 c.w)/\d.cell? ⟨w.heap.size,1,none⟩=some (.int .i64 c.tl)/\d.cell? ⟨w.heap.size,2,none⟩=some (.int .i64 c.ml)/\d.cell? ⟨w.heap.size,3,none⟩=some (.int .i64 c.sh)/\d.cell? ⟨w.heap.size,4,none⟩=some (.int .i64 c.ha)/\d.cell? ⟨w.heap.size,5,none⟩=some (.int .i64 c.sg)/\d.cell? ⟨w.heap.size+1,0,none⟩=some (.int .i64 g)/\d.cell? ⟨w.heap.size+1,1,none⟩=some (.slice a i.length k))
   (first|go_keep|exact B.out _ J|exact B.out _ I)
   (first
    |(go_at_call 89;refine(C.out _ (A.out.drew)).mono ?_;rintro e M ⟨⟨x,D,y,E,rfl,K,L⟩,l⟩;have I:Below s.heap.size s M:=(by exact nA (Below.refl _ _).drew l))
    |(go_at_call 130;refine(HC.out _ x y D E K L).mono ?_;rintro e w4 ⟨rfl,F⟩;have J:Below s.heap.size s w4:=(by exact nA I F)))
  all_goals(go_wp2;go_ret2)
  all_goals exact⟨bK (by rw[j.out]) (by rw[j.out]),nA A.out J⟩
 have Y:f.toList.isEmpty=false:=by simpa using X
 clear X;rw[Y]at n;by_cases Q:b2=false
 ·have j:Hid (o=(-1,-1)):=by show _=_;rw[n.out,Q];simp
  subst Q;clear n;go_wp2_with fail;refine(G.out _).mono ?_;rintro e m ⟨rfl,hw⟩;replace hw:=hw.symm;subst hw;go_wp2_with fail;refine(N.out _).mono ?_;rintro e M ⟨rfl,l⟩;have B3:Hid (Below w.heap.size w M):=nA A.out l;clear l;go_wp2;go_ret2;exact⟨bK (by rw[j.out]) (by rw[j.out]),B3.out⟩
 have H:b2=true:=by simpa using Q
 have j:Hid (o=RV):=by show _=_;rw[n.out,H];rfl
 subst H;clear n Q;go_wp2_with fail;refine(G.out _).mono ?_;rintro e m ⟨rfl,hw⟩;replace hw:=hw.symm;subst hw;go_wp2_with fail;refine(N.out _).mono ?_;rintro e m ⟨rfl,v⟩;have B2:Hid (Below w.heap.size w m):=nA A.out v;have B:Hid (∀d,Below m.heap.size m d->d.cell? ⟨w.heap.size,0,none⟩=some (.int .i64 c.w)/\d.cell? ⟨w.heap.size,1,none⟩=some (.int .i64 c.tl)/\d.cell? ⟨w.heap.size,2,none⟩=some (.int .i64 c.ml)/\d.cell? ⟨w.heap.size,3,none⟩=some (.int .i64 c.sh)/\d.cell? ⟨w.heap.size,4,none⟩=some (.int .i64 c.ha)/\d.cell? ⟨w.heap.size,5,none⟩=some (.int .i64 c.sg)/\d.cell? ⟨w.heap.size+1,0,none⟩=some (.int .i64 g)/\d.cell? ⟨w.heap.size+1,1,none⟩=some (.slice a i.length k)):=fun d h=>by
  have q:=(R.out.later v).later h;have p:=(S.out.later v).later h;exact⟨q.cell 0,q.cell 1,q.cell 2,q.cell 3,q.cell 4,q.cell 5,p.cell 0,p.cell 1⟩
 clear G N R S A v;obtain⟨x0,x1,x2,x3,x4,x5,y0,y1⟩:=B.out m (Below.refl _ _);go_upto_region 3 with fail;go_region_held3 (fun d=>d.cell? ⟨w.heap.size,0,none⟩=some (.int .i64 c.w)/\d.cell? ⟨w.heap.size,1,none⟩=some (.int .i64 c.tl)/\d.cell? ⟨w.heap.size,2,none⟩=some (.int .i64 c.ml)/\d.cell? ⟨w.heap.size,3,none⟩=some (.int .i64 c.sh)/\d.cell? ⟨w.heap.size,4,none⟩=some (.int .i64 c.ha)/\d.cell? ⟨w.heap.size,5,none⟩=some (.int .i64 c.sg)/\d.cell? ⟨w.heap.size+1,0,none⟩=some (.int .i64 g)/\d.cell? ⟨w.heap.size+1,1,none⟩=some (.slice a i.length k))
  (first|go_keep|exact B.out _ J|exact B.out _ I)
  (first
   |(go_at_call 89;refine(C.out _ (B2.out.drew)).mono ?_;rintro e M ⟨⟨x,D,y,E,rfl,K,L⟩,l⟩;have I:Below m.heap.size m M:=(by exact nA (Below.refl _ _).drew l))
   |(go_at_call 130;refine(HC.out _ x y D E K L).mono ?_;rintro e w4 ⟨rfl,F⟩;have J:Below m.heap.size m w4:=(by exact nA I F)))
 all_goals(go_wp2;go_ret2)
 all_goals exact⟨bK (by rw[j.out]) (by rw[j.out]),nA B2.out J⟩
def kW (s:ByteArray):Nat:=if s.size<=65535 then s.size+10 else s.size+1000000000
def mJ:List lA->Nat
 |[]=>0
 |p::r=>kW p.s+mJ r
def fT (t:dA):Nat:=t.name.size+17+mJ t.m9+mJ t.s9
def xD:List dA->Nat
 |[]=>0
 |t::r=>fT t+xD r
theorem aGd (s:ByteArray):s.size+10<=kW s:=by unfold kW;split<;>omega
theorem QJ {p:lA} (l:List lA):mJ (bB (·.s) p l)<=mJ l+kW p.s:=by
 induction l with
 |nil=>simp[bB,mJ]
 |cons q r a=>
  rw[bB];split
  ·simp only[mJ];omega
  ·split<;>(simp only[mJ];omega)
theorem BO (f:lA->Bool) (l:List lA):mJ (l.filter f)<=mJ l:=by
 induction l with
 |nil=>exact Ka _
 |cons q r a=>
  rw[Sd];split<;>(simp only[mJ];omega)
theorem tU (f:dA->Bool) (l:List dA):xD (l.filter f)<=xD l:=by
 induction l with
 |nil=>exact Ka _
 |cons q r a=>
  rw[Sd];split<;>(simp only[xD];omega)
theorem QZ {a:List dA} (g:jC (·.name) a) {t:dA} {k:Nat} (h:fT t<=fT (tA a t.name)+k):xD (bB (·.name) t a)<=xD a+17+t.name.size+k:=by
 have i:fT ⟨t.name,-1,[],[]⟩=t.name.size+17:=by simp[fT,mJ]
 have f:(∃q∈a,q.name=t.name/\fT t<=fT q+k)\/(fT t<=t.name.size+17+k):=by
  rcases uI (ts:=a) (name:=t.name) with⟨n,_⟩|⟨e,_⟩
  ·exact Ca ⟨_,n,zD,h⟩
  ·rw[e,i]at h;exact Ja h
 clear h i;rcases f with⟨q,c,d,m⟩|m
 ·have:xD (bB (·.name) t a)<=xD a+k:=by
   induction a with
   |nil=>cases c
   |cons p r j=>
    rw[bB];rcases Ab.1 c with rfl|c
    ·rw[Oa (by rw[d,pP];simp),Qa ((wC _ _).2 d)];simp only[xD];omega
    ·have b:=g.head q c;simp only[d]at b;rw[Qa b];have:=j g.tail c;simp only[xD];omega
  omega
 ·have:∀l:List dA,xD (bB (·.name) t l)<=xD l+fT t:=fun l=>by
   induction l with
   |nil=>simp[bB,xD]
   |cons p r j=>
    rw[bB];split
    ·simp only[xD];omega
    ·split<;>(simp only[xD];omega)
  have:=this a;omega
theorem aDo {d:List dA} {a b:ByteArray} {c:Int}:fT (kI (tA d a) b c)<=fT (tA d (kI (tA d a) b c).name)+kW b:=by
 have e:(kI (tA d a) b c).name=a:=zD;rw[e];have:=QJ (p:=⟨b,c⟩) (tA d a).s9;simp only[fT,kI]at this |-
 omega
theorem aEq {d:List dA} {a b:ByteArray} {c:Int}:fT (qH (tA d a) b c)<=fT (tA d (qH (tA d a) b c).name)+kW b:=by
 have e:(qH (tA d a) b c).name=a:=by rw[gP,zD]
 rw[e];have f:=QJ (p:=⟨b,c⟩) (tA d a).m9;have g:mJ (dI (·.s) b (tA d a).m9)<=mJ (tA d a).m9:=BO _ _;simp only at f;unfold qH;split
 ·simp only[fT];omega
 ·simp only[fT];split<;>omega
theorem aEk {win now:Int} (a:List dA):xD (uC win now a)<=xD a:=by
 have d:=tU (fun t=>!iE t) (a.map (fG win now));have e:xD (a.map (fG win now))<=xD a:=by
  induction a with
  |nil=>exact Ka _
  |cons t r c=>
   have:=BO (fun p=>decide (now-p.n<win)) t.s9;have b:=c (tU _ _);simp only[Lb,xD,fT,fG]at b |-
   omega
 unfold uC;omega
theorem aCc {c:vB} {b:Int} {a:List dA} (h:gB c b a=true) (r:lC):xD (vF c b a r).2.1<=xD a+17+r.n9.size+kW r.text:=by
 have g:=eP (oF h).2.2.2.2;have d:xD a<=xD a+17+r.n9.size+kW r.text:=by omega
 have f:xD (bB (·.name) (kI (tA a r.n9) r.text b) a)<=xD a+17+r.n9.size+kW r.text:=by
  have:=QZ g (t:=kI (tA a r.n9) r.text b) aDo;have e:(kI (tA a r.n9) r.text b).name=r.n9:=zD;rw[e]at this;omega
 have i:xD (bB (·.name) (qH (tA a r.n9) r.text r.num) a)<=xD a+17+r.n9.size+kW r.text:=by
  have:=QZ g (t:=qH (tA a r.n9) r.text r.num) aEq;have e:(qH (tA a r.n9) r.text r.num).name=r.n9:=by rw[gP,zD]
  rw[e]at this;omega
 unfold vF;split
 ·unfold jT;split
  ·exact d
  ·split
   ·exact f
   ·generalize (if (tA a r.n9).l9 = -1 then c.tl else(tA a r.n9).l9)=j;split
    ·exact d
    ·split
     ·exact d
     ·exact f
 ·split
  ·unfold rR;split
   ·exact d
   ·exact Ra (aEk (win:=c.w) (now:=b+r.num) a) d
  ·split
   ·unfold uZ;split
    ·exact d
    ·split
     ·exact Ra (tU _ a) d
     ·split
      ·exact d
      ·exact i
   ·exact d
theorem xi {c:vB}:∀{rs:List lC} {a:Int} {b:List dA},gB c a b=true->pC rs<=65535->xD (qL c a b rs).2.1<=xD b+27*rs.length+pC rs/\((qL c a b rs).2.2=true->gB c (qL c a b rs).1 (qL c a b rs).2.1=true)
 |[],a,b,h,_=>⟨by simp[qL,pC],fun _=>h⟩
 |r::rs,a,b,h,f=>by
  have i:=aCc h r;simp only[pC]at f;have hw:kW r.text=r.text.size+10:=Qa (by omega);rw[qL];simp only[Jb,pC];split
  ·rename_i g;have d:=xi (rs:=rs) (cf h g) (by omega);exact⟨by omega,d.2⟩
  ·exact⟨by show xD (vF c a b r).2.1<=_;omega,fun e=>by cases e⟩
theorem bQ:∀a:List lA,a.length+fC a<=mJ a/\(tC a).size<=mJ a/\(mJ a<1000000000->∀p∈a,p.s.size<=65535)
 |[]=>⟨Ka _,Ka _,fun _ p d=>by cases d⟩
 |p::r=>by
  obtain⟨e,f,c⟩:=bQ r;have g:=aGd p.s;refine⟨by simp only[Jb,fC,mJ];omega,?_,fun hw q b=>?_⟩
  ·rw[tC,vX,Ga,Ga,oD,iA,mJ];omega
  ·rw[mJ]at hw;rcases Ab.1 b with rfl|b
   ·unfold kW at hw;split at hw
    ·assumption
    ·omega
   ·exact c (by omega) q b
theorem pQ:∀a:List dA,a.length+uA a<=xD a/\(iC a).size<=xD a/\(xD a<1000000000->∀t∈a,mJ t.m9<1000000000/\mJ t.s9<1000000000)
 |[]=>⟨Ka _,Ka _,fun _ p d=>by cases d⟩
 |t::r=>by
  obtain⟨e,f,c⟩:=pQ r;have g:=bQ t.m9;have h:=bQ t.s9;refine⟨by simp only[Jb,uA,fD,xD,fT];omega,?_,fun hw q b=>?_⟩
  ·rw[iC,eL,CJ];simp only[Ga,mE,iA,xD,fT];omega
  ·rw[xD,fT]at hw;rcases Ab.1 b with rfl|b
   ·exact⟨by omega,by omega⟩
   ·exact c (by omega) q b
theorem MI {c:vB} {a lsn:Int} {b:List dA} (h:gB c a b=true) (hw:xD b<=1000000) (n:0<=lsn) (o:lsn<=1000000000000000):bT lsn b/\(xE lsn a b).size<=1000028/\(xE lsn a b).size≠0/\WJ b/\uY a:=by
 obtain⟨y,p,q,_,r⟩:=oF h;have g:∀t∈b,eO c.w a t=true:=nH r;have k:bT lsn b:=⟨n,o,fun i f=>by
  obtain⟨l,m⟩:=(pQ b).2.2 (by omega) _ (Xa f);obtain⟨s,_⟩:=CI (g _ (Xa f));refine⟨?_,fun j d=>(bQ _).2.2 l _ (Xa d),fun j d=>(bQ _).2.2 m _ (Xa d)⟩;simp only[yB,Sa,Eb]at s;omega⟩
 have z:=(pQ b).2.1;have e:(xE lsn a b).size=28+(iC b).size:=by
  rw[nR k,gH,mX];simp only[Ga,iA];show 4+8+8+4+_+4=_;omega
 refine⟨k,by omega,by omega,fun i f=>?_,by unfold uY;omega⟩;obtain⟨_,u,v,x,_⟩:=CI (g _ (Xa f));simp only[xA,Sa,Eb]at u;refine⟨⟨by omega,by omega⟩,fun j d=>?_,fun j d=>?_⟩
 ·have:=((IU v).1 _ (Xa d)).2;simp only[xA,Sa,Eb]at this;exact⟨by omega,by omega⟩
 ·have:=((BV x).1 _ (Xa d)).2.1;simp only[xA,Sa,Eb]at this;exact⟨by omega,by omega⟩
theorem xv {n:Nat} {r:Rd} (h:(uB n r).2.r9=false):(uB n r).1.size=n:=by
 unfold uB at *;split at h
 ·simp at h
 ·rename_i a;rw[Oa a];simp;omega
theorem cl {k:Nat} {r:Rd} (h:(oA k r).2.r9=false):(oA k r).2.rest.size+k+(oA k r).1.size=r.rest.size:=by
 rw[oA]at *;have a:(zA k r).2.r9=false:=by
  cases hs:(zA k r).2.r9 with
  |false=>rfl
  |true=>rw[sU hs]at h;exact h
 have b:=tJ a;have c:=QW h;have d:=xv h;omega
theorem aFe {r:Rd} (h:(WF r).2.r9=false):(WF r).2.rest.size+(vX (WF r).1).size=r.rest.size:=by
 rw[DG];rw[jy];rw[BP]at *;have a:(oA 2 r).2.r9=false:=by
  cases hs:(oA 2 r).2.r9 with
  |false=>rfl
  |true=>rw[bD (k:=8) hs]at h;exact h
 have b:=tJ h;have c:=cl a;show _+(10+(oA 2 r).1.size)=_;omega
theorem pk (r:Rd):nF r 0=([],r):=rfl
theorem aw {r:Rd} (k:Nat):(nF r k).2.r9=false->(nF r k).2.rest.size+(tC (nF r k).1).size=r.rest.size:=by
 induction k with
 |zero=>intro _;rw[pk];simp[tC]
 |succ k c=>
  intro h;have b:(nF r k).2.r9=false:=by
   cases hs:(nF r k).2.r9 with
   |false=>rfl
   |true=>rw[mU hs (k+1) (by omega)]at h;exact h
  have d:=c b;rw[DZ]at h |-
  have a:(WF (nF r k).2).2.r9=false->_:=aFe (r:=(nF r k).2);generalize WF (nF r k).2=A at *;have f:=a h;have e:tC ((nF r k).1++[A.1])=tC (nF r k).1++vX A.1:=by rw[vO];simp[tC]
  show A.2.rest.size+(tC ((nF r k).1++[A.1])).size=_;rw[e,Ga];omega
theorem ji (t:dA):(eL t).size=17+t.name.size+(tC t.m9).size+(tC t.s9).size:=by rw[wW,mI,mI];omega
theorem aCg {r:Rd} (h:(cM r).2.r9=false):(cM r).2.rest.size+(eL (cM r).1).size=r.rest.size:=by
 rw[ji,xy];rw[CL]at *;have d:(VX r).2.r9=false:=by
  cases hs:(VX r).2.r9 with
  |false=>rfl
  |true=>rw[MT hs]at h;exact h
 have c:(MV r).2.r9=false:=by
  cases hs:(MV r).2.r9 with
  |false=>rfl
  |true=>rw[MH hs]at d;exact d
 have b:(VW r).2.r9=false:=by
  cases hs:(VW r).2.r9 with
  |false=>rfl
  |true=>rw[MS hs]at c;exact c
 have a:(RC r).2.r9=false:=by
  cases hs:(RC r).2.r9 with
  |false=>rfl
  |true=>rw[LG hs]at b;exact b
 have e:(NY r).2.r9=false:=by
  cases hs:(NY r).2.r9 with
  |false=>rfl
  |true=>rw[MR hs]at a;exact a
 have f:(NY r).2.rest.size+1+(NY r).1.size=r.rest.size:=by rw[NY]at e |-;exact cl (k:=1) e
 have g:(RC r).2.rest.size+8=(NY r).2.rest.size:=by rw[RC]at a |-;exact tJ (k:=8) a
 have i:(VW r).2.rest.size+4=(RC r).2.rest.size:=by rw[VW]at b |-;exact tJ (k:=4) b
 have j:(MV r).2.rest.size+(tC (MV r).1).size=(VW r).2.rest.size:=by rw[MV]at c |-;exact aw _ c
 have l:(VX r).2.rest.size+4=(MV r).2.rest.size:=by rw[VX]at d |-;exact tJ (k:=4) d
 have m:(cq r).2.rest.size+(tC (cq r).1).size=(VX r).2.rest.size:=by rw[cq]at h |-;exact aw _ h
 generalize cq r=A at *;generalize MV r=C at *;generalize NY r=D at *;show _+(17+D.1.size+(tC C.1).size+(tC A.1).size)=_;omega
theorem wq {r:Rd} (k:Nat):(pJ r k).2.r9=false->(pJ r k).2.rest.size+(iC (pJ r k).1).size=r.rest.size:=by
 induction k with
 |zero=>intro _;rw[rS];simp[iC]
 |succ k c=>
  intro h;have b:(pJ r k).2.r9=false:=by
   cases hs:(pJ r k).2.r9 with
   |false=>rfl
   |true=>rw[LR hs (k+1) (by omega)]at h;exact h
  have d:=c b;rw[EA]at h |-
  have a:(cM (pJ r k).2).2.r9=false->_:=aCg (r:=(pJ r k).2);generalize cM (pJ r k).2=A at *;have f:=a h;have e:iC ((pJ r k).1++[A.1])=iC (pJ r k).1++eL A.1:=by rw[zI];simp[iC]
  show A.2.rest.size+(iC ((pJ r k).1++[A.1])).size=_;rw[e,Ga];omega
theorem aCb {s:ByteArray} (h:(aF s).2.r9=false):(iC (aF s).1).size<=s.size:=by
 have a:(ckR s).2.rest.size<=s.size:=by rw[ckR];exact(xG 4 ⟨s,false⟩).2.2
 have b:(MU s).2.rest.size<=(ckR s).2.rest.size:=by rw[MU];exact vM 8 _
 have c:(CE s).2.rest.size<=(MU s).2.rest.size:=by rw[CE];exact vM 8 _
 have d:(scR s).2.rest.size<=(CE s).2.rest.size:=by rw[scR];exact vM 4 _
 have e:(aF s).2.rest.size+(iC (aF s).1).size=(scR s).2.rest.size:=by rw[aF]at h |-;exact wq _ h
 omega
theorem zw (a:List dA) (k:Nat) (h:k<a.length):(eL a[k]).size<=(iC a).size:=by
 have e:=gZ a k h;have b:=zI (a.take (k+1)) (a.drop (k+1));rw[Ya,e]at b;rw[b,Ga,Ga];omega
theorem jv (a:List lA) (j:Nat) (h:j<a.length):a[j].s.size<=(tC a).size:=by
 have e:=fZ a j h;have b:=vO (a.take (j+1)) (a.drop (j+1));have c:=DG a[j];rw[Ya,e]at b;rw[b,Ga,Ga];omega
theorem an (a:List dA) (i:Nat) (h:i<a.length):a[i].name.size<=(iC a).size/\a[i].m9.length*10<=(iC a).size/\a[i].s9.length*10<=(iC a).size/\(∀j (b:j<a[i].m9.length),a[i].m9[j].s.size<=(iC a).size)/\(∀j (b:j<a[i].s9.length),a[i].s9[j].s.size<=(iC a).size):=by
 have c:=zw a i h;have d:=ji a[i];have e:=mI a[i].m9;have f:=mI a[i].s9;refine⟨by omega,by omega,by omega,fun j b=>?_,fun j b=>?_⟩
 ·have:=jv a[i].m9 j b;omega
 ·have:=jv a[i].s9 j b;omega
theorem JU:∀(a:List dA),17*a.length<=(iC a).size
 |[]=>by simp
 |t::q=>by
  have h:=JU q;have e:=wW t;show 17*(q.length+1)<=(eL t++iC q).size;rw[Ga];omega
def vR (c:vB) (s:ByteArray):Int×Int×List dA×Bool:=
 if (aF s).2.r9=false/\xE (jB (MU s).1) (jB (CE s).1) (aF s).1=s/\gB c (jB (CE s).1) (aF s).1=true then(jB (MU s).1,jB (CE s).1,(aF s).1,true) else(0,0,[],false)
theorem eb {c:vB} {s:ByteArray} (h:(aF s).2.r9=true):vR c s=(0,0,[],false):=by unfold vR;rw[Oa];rw[h];simp
theorem jh {c:vB} {s:ByteArray} (h:xE (jB (MU s).1) (jB (CE s).1) (aF s).1≠s):vR c s=(0,0,[],false):=by unfold vR;rw[Oa];exact fun a=>h a.2.1
theorem zt {c:vB} {s:ByteArray} (h:gB c (jB (CE s).1) (aF s).1=false):vR c s=(0,0,[],false):=by unfold vR;rw[Oa];rw[h];simp
theorem jg {c:vB} {s:ByteArray} (a:(aF s).2.r9=false) (b:xE (jB (MU s).1) (jB (CE s).1) (aF s).1=s) (d:gB c (jB (CE s).1) (aF s).1=true):vR c s=(jB (MU s).1,jB (CE s).1,(aF s).1,true):=by unfold vR;rw[Qa ⟨a,b,d⟩]
theorem zu {c:vB} {s:ByteArray} {a b:Int} {d:List dA} (f:s.size≠0) (q:s.size<=1000000000) (hw:uY b) (o:WJ d) (h:xE a b d=s) (m:gB c b d=true):vR c s=(a,b,d,true):=by
 have e:bT a d:=by
  by_cases e:bT a d
  ·exact e
  ·rw[lX e]at h;rw[<-h]at f;exact absurd rfl f
 have r:(iC d).size<=s.size:=by
  rw[<-h,nR e,Ga,gH,Ga];omega
 have p:=JU d;obtain⟨k,g,_,j,l⟩:=xp e hw o (by omega) (fun i n=>by have:=an d i n;omega);rw[h]at k g j l;have:=jg (c:=c) l (by rw[k,g,j];exact h) (by rw[g,j];exact m);rw[this,k,g,j]
def aFv (a:List mA):Prop:=∀i (h:i<a.length),a[i].name.size<=1000000000/\a[i].value.size<=1000000000
def dW (a:List mA):List ByteArray:=a.flatMap fun l=>[oK l.name,nD l.value]
theorem ah (a:List mA) (k:Nat) (h:k<a.length):dW (a.take (k+1))=dW (a.take k)++[oK a[k].name,nD a[k].value]:=by
 unfold dW;rw[Ma h,Zf];rfl
theorem JN:∀(a:List mA),gE (dW a)=cC a
 |[]=>rfl
 |l::r=>by
  have e:dW (l::r)=[oK l.name,nD l.value]++dW r:=rfl;rw[e,pF,JN r,cC];simp[gE]
theorem ez (a:Option Addr) (Z:Nat) (c:List mA) (w:World) (hf:sC w a c) (hB:aFv c) (hlen:c.length<=255):
 Calls prog 92 #[.slice a c.length Z] w fun e p=>e=.returned (.string (nI c))/\Below w.heap.size w p:=by
 have HF:Hid (sC w a c):=hf;have HB:Hid (aFv c):=hB;have HU:Hid (∀W,Calls prog 21 #[.int .i64 (c.length:Nat)] W fun e p=>e=.returned (.string (fA 1 (c.length:Nat)))/\Below W.heap.size W p):=fun W=>KI c.length W;have hz1:=iA 1 (c.length:Nat);have V:Hid (nI c=fA 1 (c.length:Nat)++cC c):=rfl;generalize fA 1 (c.length:Nat)=Y at *;obtain⟨ti,O,g0,h0,i0⟩:=DK;have HI:Hid (prog.info? 9=some ti):=O;clear hf hB O;go_enter func92,ntmps92;go_wp2_with fail;refine(HU.out _).mono ?_;rintro e Q ⟨rfl,r⟩;have B1:Hid (Below w.heap.size w Q):=r;have e0:w.heap.size<=Q.heap.size:=r.size;clear r;go_wp2;go_loopw [3,5,12] (fun k0 _ i wr=>∃(k:Nat) (f:List ByteArray) (g C:Nat),k<=c.length/\i=.int .i64 k/\k0=.slice (some ⟨g,0,none⟩) f.length C/\f.length<=1+2*k/\wE f<=1+k*3000000000/\Hid (f=Y::dW (c.take k))/\Hid (wr.ownsRow w.heap.size 9 1 (.slice (some ⟨g,0,none⟩) f.length C) f.length (f.map Value.string))/\Below w.heap.size w wr) (fun _ _ i _=>c.length-(intOf i).toNat)
 case atStart=>
  exact⟨0,[Y],_,_,La _,rfl,rfl,by simp,by simp[wE];omega,rfl,⟨rfl,Ja ⟨Q.heap.size,1,_,rfl,e0,heap_alloc_new _ _,Ka _,by simp[maxLen],rfl,rfl⟩⟩,nA B1.out (cA _ _)⟩
 case round=>
  obtain⟨k,f,g,C,hk,rfl,rfl,hpl,hps,I,j,n⟩:=hrel;by_cases E:k<c.length
  ·obtain⟨b,o,rfl,hb,c0,c1⟩:=(HF.out.later n).at E;obtain⟨b0,d0⟩:=HB.out k E;have X:Hid (∀W,Calls prog 22 #[.string c[k].name] W fun e p=>e=.returned (.string (oK c[k].name))/\Below W.heap.size W p):=fun W=>uT c[k].name W b0;have J:Hid (∀W,Calls prog 23 #[.string c[k].value] W fun e p=>e=.returned (.string (nD c[k].value))/\Below W.heap.size W p):=fun W=>xN c[k].value W d0;have hz8:=mE c[k].name;have hz16:=oD c[k].value;have HT:=ah c k E;have U:Hid (f++[oK c[k].name,nD c[k].value]=Y::dW (c.take (k+1))):=by show _=_;rw[HT,I.out];rfl
   clear HT;generalize oK c[k].name=q at *;generalize nD c[k].value=h at *;generalize c[k].name=F at *;generalize c[k].value=G at *;have s:Hid (eA (wr.alloc (.cells #[.string F,.string G] 156)) wr.heap.size #[.string F,.string G] 156/\Below wr.heap.size wr (wr.alloc (.cells #[.string F,.string G] 156))):=⟨heap_alloc_new _ _,cA _ _⟩
   have B:Hid ((wr.alloc (.cells #[.string F,.string G] 156)).ownsRow w.heap.size 9 1 (.slice (some ⟨g,0,none⟩) f.length C) f.length (f.map Value.string)/\Below w.heap.size w (wr.alloc (.cells #[.string F,.string G] 156))):=⟨vA j.out (cA _ _),nA n (cA _ _)⟩
   go_wp2_with fail;generalize wr.alloc (.cells #[.string F,.string G] 156)=W at *;have S:=s.out.1.cell 0;have T:=s.out.1.cell 1;simp only[Nc,Cc,Ia]at S T;have l:wr.heap.size<W.heap.size:=aA s.out.1;have j0:w.heap.size<=W.heap.size:=B.out.2.size;have hgB:g<wr.heap.size:=(lH j.out).2.1;clear j s hb c0 c1 n;generalize wr.heap.size=v at *;clear wr;go_region_held3 (fun p=>p.cell? ⟨v,0,none⟩=some (.string F)/\p.cell? ⟨v,1,none⟩=some (.string G))
    (first
     |go_keep
     |exact⟨z.trans S,A.trans T⟩
     |exact⟨((d.alloc d.size _).cell l).trans S,((d.alloc d.size _).cell l).trans T⟩
     |exact⟨(d.cell l).trans S,(d.cell l).trans T⟩
     |exact⟨(u.cell l).trans S,(u.cell l).trans T⟩)
    ((first
      |(go_at_call 22;refine(X.out _).mono ?_;rintro e Q ⟨rfl,r⟩;have u:Below W.heap.size W Q:=(Below.refl _ W).drew.trans r)
      |(go_at_call 23;refine(J.out _).mono ?_;rintro e w2 ⟨rfl,t⟩;have d:Below W.heap.size W w2:=u.trans (t.mono u.size))
      |(refine tH _ (by rfl) _ _ _ (by rfl) w.heap.size 9 ti _ 1 16 underlying39 HI.out g0 h0 i0 rfl (by omega) g f.length C _ (by rfl) (by exact vA (vA B.out.1 d) (cA _ _)) _ 2 2 [.string q,.string h] (by rfl) rfl (by exact Ja ⟨_,rfl,World.news_of_block (cs:=#[.string q,.string h]) (heap_alloc_new _ _)⟩) (by simp[Value.oneCell']) (by simp[maxLen];omega) (by omega) (by have:=d.size;simp;omega) ?_;intro g5 x R m K D hg5 L hlt5;have z:R.cell? ⟨v,0,none⟩=W.cell? ⟨v,0,none⟩:=(World.cell?_of_block (D v (by have:=d.size;simp;omega) (by omega))).trans ((d.alloc d.size _).cell l);have A:R.cell? ⟨v,1,none⟩=W.cell? ⟨v,1,none⟩:=(World.cell?_of_block (D v (by have:=d.size;simp;omega) (by omega))).trans ((d.alloc d.size _).cell l);have y:Below w.heap.size w R:=((nA B.out.2 d).alloc (Ra j0 d.size) _).trans K)))
   have P:f.map Value.string++[Value.string q,.string h]=(f++[q,h]).map Value.string:=by simp
   have N:(f++[q,h]).length=f.length+2:=by simp
   have hsm:wE (f++[q,h])=wE f+(q.size+h.size):=by rw[mG];simp[wE]
   rw[P,<-N]at m;rw[<-N];have H:Hid (R.ownsRow w.heap.size 9 1 (.slice (some ⟨g5,0,none⟩) (f++[q,h]).length x) (f++[q,h]).length ((f++[q,h]).map Value.string)/\Below w.heap.size w R):=⟨m,y⟩
   clear m K y D L z A P;generalize f++[q,h]=l0 at *;go_wp2;exact⟨⟨k+1,l0,g5,x,by omega,by go_num,rfl,by omega,by omega,U.out,H.out.1,H.out.2⟩,by simp[intOf];omega⟩
  ·have U:Hid (gE f=nI c):=by
    show _=_;rw[I.out,Ua (by omega),gE,JN,V.out]
   obtain⟨a0,hg,M⟩:=lH j.out;have HJ:Hid (Calls prog 24 #[.slice (some ⟨g,0,none⟩) f.length C] wr fun e p=>e=.returned (.string (gE f))/\Below wr.heap.size wr p):=eK g f.length C f wr rfl M hg a0 (by omega) (by omega);rw[U.out]at HJ;clear j M;go_wp2_with fail;refine HJ.out.mono ?_;rintro e w2 ⟨rfl,t⟩;have B2:Hid (Below w.heap.size w w2):=nA n t;clear t;go_wp2;go_ret;exact⟨rfl,B2.out⟩
