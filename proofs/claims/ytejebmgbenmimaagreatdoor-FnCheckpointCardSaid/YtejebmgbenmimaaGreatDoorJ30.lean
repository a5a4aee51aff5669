import Derived.Test.YtejebmgbenmimaaGreatDoorJ26
import Derived.Test.YtejebmgbenmimaaGreatDoorJ27
set_option maxRecDepth 100000
set_option maxHeartbeats 40000000
set_option linter.defProp false
open Bool renaming false->gA
open Option renaming none->eA,some->fA
open List renaming length->cB
namespace Go.Proofs.YtejebmgbenmimaaGreatDoor
open Go renaming World->jA,Calls->lA,Value->mA
open Value renaming agg->yA,string->tA,bool->vA,slice->uA,pointer->xA,int->qA
open Ending renaming returned->zA
open Obj renaming cells->aB
open IntKind renaming i64->sA
open Go.RowKit Tryz
def pc(x b a:Int):dC x b a=decide (b<=x/\x<=a):=by
 unfold dC;by_cases c:b<=x<;>by_cases d:x<=a<;>simp[c,d]
def WD{x:vB}:(x.toList==[])=decide (x.size=0):=by
 rw[ByteArray.toList_eq];cases h:x.data.toList with
 |nil=>
  have b:x.size=0:=by have:cB x.data.toList=0:=by rw[h];rfl
                      simpa using this
  simp[b]
 |cons a l=>
  have b:x.size≠0:=by have:cB x.data.toList=cB l+1:=by rw[h];rfl
                      simp at this;omega
  simp[b]
def gu(d c:Int)(a b:vB)(w:jA)(s:a.size<=1000000000)(t:b.size<=1000000000):
 gF 206 #[yA #[dB d,tA a,tA b,dB c]] w (vA (ZX ⟨d,a,b,c⟩)):=by
 by_cases o:a.size > 255
 .have E:fB (ZX ⟨d,a,b,c⟩=gA):=gB (BD λh=>by have:=h.1;simp only at this;omega);have j:(a.size:Int) > 255:=by omega
  go_enter func206,ntmps206;go_wp2;go_ret;exact⟨tB E.o.symm,aC⟩
 have j:¬(a.size:Int) > 255:=by omega
 by_cases p:b.size > 65535
 .have E:fB (ZX ⟨d,a,b,c⟩=gA):=gB (BD λh=>by have:=h.2.1;simp only at this;omega);have k:(b.size:Int) > 65535:=by omega
  go_enter func206,ntmps206;go_wp2;go_ret;exact⟨tB E.o.symm,aC⟩
 have k:¬(b.size:Int) > 65535:=by omega
 by_cases l:d=1
 .subst l;have E:fB (ZX ⟨1,a,b,c⟩=(c==0)):=gB (by
   by_cases h:c=0
   .rw[UQ (show qO ⟨1,a,b,c⟩ from⟨by simp only;omega,by simp only;omega,Ca ⟨rfl,h⟩⟩)];simp[h]
   rw[BD (show ¬qO ⟨1,a,b,c⟩ from λf=>f.2.2.elim (λg=>h g.2) (λg=>g.elim (λg=>absurd g.1 (show ¬(1:Int)=2 by decide)) (λg=>absurd g (show ¬(1:Int)=3 by decide))))];simp[h])
  go_enter func206,ntmps206;go_wp2;go_ret;exact⟨tB E.o.symm,aC⟩
 by_cases m:d=2
 .subst m;by_cases i:a.size=0
  .have E:fB (ZX ⟨2,a,b,c⟩=(b.toList==[])):=gB (by
    rw[WD];by_cases h:b.size=0
    .rw[UQ (show qO ⟨2,a,b,c⟩ from⟨by simp only;omega,by simp only;omega,La (Ca ⟨rfl,i,h⟩)⟩),Ac h]
    rw[BD (show ¬qO ⟨2,a,b,c⟩ from λf=>f.2.2.elim (λg=>absurd g.1 (show ¬(2:Int)=1 by decide)) (λg=>g.elim (λg=>h g.2.2) (λg=>absurd g (show ¬(2:Int)=3 by decide)))),Ub h])
   have q:(a.toList==[])=true:=by rw[WD];exact Ac i
   clear i o p;go_enter func206,ntmps206;go_wp2;go_ret;exact⟨tB (by rw[E.o];first|rfl|simp),aC⟩
  .have E:fB (ZX ⟨2,a,b,c⟩=gA):=gB (BD λf=>f.2.2.elim (λg=>absurd g.1 (show ¬(2:Int)=1 by decide)) (λg=>g.elim (λg=>i g.2.1) (λg=>absurd g (show ¬(2:Int)=3 by decide))));have q:(a.toList==[])=gA:=by rw[WD];exact Ub i
   clear i o p;go_enter func206,ntmps206;go_wp2;go_ret;exact⟨tB E.o.symm,aC⟩
 by_cases n:d=3
 .subst n;have E:fB (ZX ⟨3,a,b,c⟩=true):=gB (UQ ⟨by simp only;omega,by simp only;omega,La (La rfl)⟩);go_enter func206,ntmps206;go_wp2;go_ret;exact⟨tB E.o.symm,aC⟩
 have E:fB (ZX ⟨d,a,b,c⟩=gA):=gB (BD λf=>f.2.2.elim (λg=>l g.1) (λg=>g.elim (λg=>m g.1) (λg=>n g)));go_enter func206,ntmps206;go_wp2;go_ret;exact⟨tB E.o.symm,aC⟩
def aHj(a:List tE):Prop:=∀i(h:i<cB a),a[i].T.size<=1000000000/\a[i].X.size<=1000000000
def aLd:Op:=Op.convert 9 22 (Operand.tmp 24)
theorem gp(d:Int)(a:Option Addr)(p:Nat)(c:List tE)(w:World)(hf:lI w a c)(hB:aHj c)(hR:VQ c)(B:VP d)(hlen:c.length<=2000000):
 Calls prog 137 #[.agg #[.int .i64 d,.slice a c.length p]] w λe f=>e=.returned (.string (aN d c))/\Below w.1.size w f:=by
 have HW1:fB (∀W,Calls prog 103 #[.int .i64 d,.int .i64 1,.int .i64 1000000000000000] W λe f=>e=.returned (.bool (decide (1<=d/\d<=1000000000000000)))/\f=W):=λW=>by have:=zD d 1 1000000000000000 W;rw[pc]at this;exact this
 have HW2:fB (∀W,Calls prog 103 #[.int .i64 (c.length:Nat),.int .i64 1,.int .i64 500] W λe f=>e=.returned (.bool (decide (1<=((c.length:Nat):Int)/\((c.length:Nat):Int)<=500)))/\f=W):=λW=>by have:=zD (c.length:Nat) 1 500 W;rw[pc]at this;exact this
 have Q:fB (decide (1<=d/\d<=1000000000000000)=false\/decide (1<=((c.length:Nat):Int)/\((c.length:Nat):Int)<=500)=false->aN d c=ByteArray.empty):=λh=>LL λhh=>by
  obtain⟨h1,h2,h3,h4,-⟩:=hh;rcases h with h|h<;>exact of_decide_eq_false h ⟨by omega,by omega⟩
 have HN2:fB (decide (1<=d/\d<=1000000000000000)=true->decide (1<=((c.length:Nat):Int)/\((c.length:Nat):Int)<=500)=true->(1<=d/\d<=1000000000000000)/\1<=((c.length:Nat):Int)/\((c.length:Nat):Int)<=500):=λh h'=>⟨Wd h,Wd h'⟩
 generalize decide (1<=d/\d<=1000000000000000)=d1 at *;generalize decide (1<=((c.length:Nat):Int)/\((c.length:Nat):Int)<=500)=d2 at *;go_enter func137,ntmps137;go_wp2_with fail;refine tD (HW1.o _) ?_;cases d1
 .have E:=gB (Q.o (by simp));go_wp2;go_ret;exact⟨by rw[E.o];rfl,aC⟩
 go_wp2_with fail;refine tD (HW2.o _) ?_;cases d2
 .have E:=gB (Q.o (by simp));go_wp2;go_ret;exact⟨by rw[E.o];rfl,aC⟩
 obtain⟨c1,c3⟩:=HN2.o (by simp) (by simp);clear HW1 HW2 Q HN2;have HF:fB (lI w a c):=hf;have HB:fB (aHj c):=hB;have HR:fB (VQ c):=hR;have M:fB (∀W,Calls prog 68 #[.int .i64 8,.int .i64 d] W λe f=>e=.returned (.string (uB 8 d))/\Below W.1.size W f):=λW=>oD 8 d W (by omega) B.1 B.2;have L:fB (∀W,Calls prog 68 #[.int .i64 2,.int .i64 (c.length:Nat)] W λe f=>e=.returned (.string (uB 2 (c.length:Nat)))/\Below W.1.size W f):=λW=>oD 2 (c.length:Nat) W (by omega) (by omega) (by omega);have hz8:=oB 8 d;have hz2:=oB 2 (c.length:Nat);have HKB:fB (eY d c->aN d c=uB 8 d++uB 2 (c.length:Nat)++uM c):=λh=>LM h;have HOK:fB (ri c->eY d c):=λh=>⟨by omega,by omega,by omega,by omega,h⟩
 generalize uB 8 d=T at *;generalize uB 2 (c.length:Nat)=S at *;have hz10:(T++S).size=10:=by rw[Ka,hz8,hz2]
 obtain⟨CV,CN,hcv,hcn⟩:=DU (T++S) (by omega);have J:fB _:=hcn;clear hf hB hR B hcn;go_upto_region 3 with fail;have X6:fB (rB (w.alloc (.cells #[.int .i64 d,.slice a c.length p] 121)) w.1.size #[.int .i64 d,.slice a c.length p] 121):=rB.new _ _ _;have B0:fB (Below w.1.size w (w.alloc (.cells #[.int .i64 d,.slice a c.length p] 121))):=aC;generalize w.alloc (.cells #[.int .i64 d,.slice a c.length p] 121)=H at *;have A:fB (∀f,Below H.1.size H f->f.cell? ⟨w.1.size,0,none⟩=some (.int .i64 d)/\f.cell? ⟨w.1.size,1,none⟩=some (.slice a c.length p)):=λf h=>by
  have q:=X6.o.z h;exact⟨q.cell 0,q.cell 1⟩
 obtain⟨x0,x1⟩:=A.o H jD;go_cut [3] (λs wx=>yM wx H.1.size s (T++S)/\Below H.1.size H wx)
 case first=>
  rw[show Op.convert 9 22 (Operand.tmp 24)=aLd from rfl];have hop:aLd=Op.convert 9 22 (Operand.tmp 24):=rfl;go_region_held3 (λf=>f.cell? ⟨w.1.size,0,none⟩=some (.int .i64 d)/\f.cell? ⟨w.1.size,1,none⟩=some (.slice a c.length p))
   (first|go_keep|exact A.o _ (xB k4 (J.o _).2)|exact A.o _ k4|exact A.o _ k3)
   (first
    |(go_at_call 68;(fail_if_success (have q:=k3));refine(M.o _).mono ?_;rintro e w3 ⟨rfl,U⟩;have k3:Below H.1.size H w3:=(by exact xB jD.drew U))
    |(go_at_call 68;have q:=k3;clear q;refine(L.o _).mono ?_;rintro e w4 ⟨rfl,V⟩;have k4:Below H.1.size H w4:=(by exact xB k3 V)))
  all_goals(go_wp2_with fail;go_meet)
  all_goals exact⟨(J.o _).1.mono k4.size,xB k4 (J.o _).2⟩
 obtain⟨D,Y⟩:=hcut;rename World=>w5;have B5:fB _:=xB B0.o Y;have HBL:fB (yM w5 w.1.size u3 (T++S)):=D.mono B0.o.size;have HK5:fB _:=λf h=>A.o f (xB Y h);obtain⟨y0,y1⟩:=HK5.o w5 jD;clear x0 x1 A X6 D Y B0 M L HK5 J hcv;go_wp2;go_loopw [3,5,29] (λout _ i wr=>∃(k:Nat)(G:ByteArray),k<=c.length/\i=.int .i64 k/\G.size<=10+k*3000000000/\fB (G=T++S++uM (c.take k))/\fB (∀j(h:j<c.length),j<k->qO c[j])/\fB (yM wr w.1.size out G)/\Below w.1.size w wr) (λ_ _ i _=>c.length-(intOf i).toNat)
 case atStart=>
  exact⟨0,T++S,Oa _,rfl,by omega,by show _=_;simp[uM],λj _ h=>absurd h (by omega),HBL.o,B5.o⟩
 case round=>
  obtain⟨k,G,hk,rfl,hst,HST,u,g,l⟩:=hrel;by_cases C:k<c.length
  .obtain ⟨b,o,rfl,hb,c0,c1,c2,c3⟩:=(HF.o.z l).at C;obtain⟨hn1,hn2⟩:=HB.o k C;obtain⟨b0,d0⟩:=HR.o k C;have v:fB (∀W,Calls prog 206 #[.agg #[.int .i64 c[k].K,.string c[k].T,.string c[k].X,.int .i64 c[k].U]] W λe f=>e=.returned (.bool (ZX c[k]))/\Below W.1.size W f):=λW=>gu _ _ _ _ W hn1 hn2;by_cases y:qO c[k]
   .rw[UQ y]at v;have HK1:fB (∀W,Calls prog 68 #[.int .i64 1,.int .i64 c[k].K] W λe f=>e=.returned (.string (uB 1 c[k].K))/\Below W.1.size W f):=λW=>oD 1 _ W (by omega) b0.1 b0.2;have HS8:fB _:=λW=>sP c[k].T W hn1;have HS16:fB _:=λW=>bO c[k].X W hn2;have HN8:fB (∀W,Calls prog 68 #[.int .i64 8,.int .i64 c[k].U] W λe f=>e=.returned (.string (uB 8 c[k].U))/\Below W.1.size W f):=λW=>oD 8 _ W (by omega) d0.1 d0.2;have hq1:=oB 1 c[k].K;have hq2:=sF c[k].T;have hq3:=kF c[k].X;have hq4:=oB 8 c[k].U;have HA2:fB (∀j(h:j<c.length),j<k+1->qO c[j]):=λj h hj=>by
     rcases Gc j k with h1|h1
     .exact u.o j h h1
     .obtain rfl:j=k:=by omega
      exact y
    have HT:=ju c k C;have E2:fB (G++(uB 1 c[k].K++vM c[k].T++eG c[k].X++uB 8 c[k].U)=T++S++uM (c.take (k+1))):=by show _=_;rw[HT,HST.o,WW,Wa]
    clear HT y u b0 d0;generalize uB 1 c[k].K=m at *;generalize vM c[k].T=n at *;generalize eG c[k].X=z at *;generalize uB 8 c[k].U=K at *;generalize c[k].K=ki at *;generalize c[k].T=te at *;generalize c[k].X=tx at *;generalize c[k].U=nu at *;have hq5:(m++n).size=m.size+n.size:=Ka;have hq6:(m++n++z).size=m.size+n.size+z.size:=by rw[Ka,hq5]
    have hq7:(m++n++z++K).size=m.size+n.size+z.size+K.size:=by rw[Ka,hq6]
    have hq8:(G++(m++n++z++K)).size=G.size+(m.size+n.size+z.size+K.size):=by rw[Ka,hq7]
    have n1:¬(9223372036854775807<m.size+n.size):=by omega
    have n2:¬(9223372036854775807<m.size+n.size+z.size):=by omega
    have n3:¬(9223372036854775807<m.size+n.size+z.size+K.size):=by omega
    have HQ:fB (m.size=1/\n.size=1+te.size/\z.size=2+tx.size/\K.size=8):=⟨hq1,hq2,hq3,hq4⟩
    clear hq1 hq2 hq3 hq4;obtain⟨gv,hgv,hgv1,hgv2⟩:=g.o.lt;have P:=gB (rB.new wr #[.int .i64 ki,.string te,.string tx,.int .i64 nu] 56);have HBW:=gB (uF wr (.cells #[.int .i64 ki,.string te,.string tx,.int .i64 nu] 56));go_wp2_with fail;refine(v.o _).mono ?_;rintro e W ⟨rfl,r⟩;have A:=gB (λf(h:Below W.1.size W f)=>(P.o.z r).z h);have X:=xB HBW.o r;have R:=gB (Vc (g.o.z X) (xB l X));have hBX:=eB (P.o.z r);have hww:=R.o.2.size;have hngv:gv≠wr.1.size:=by omega
    have HGV:=gB hgv;clear g P hb c0 c1 c2 c3 l r X HBW v hgv hgv1 hgv2;go_wp2_with fail;generalize wr.1.size=I at *;clear wr;have x:fB (∀f,Below W.1.size W f->f.cell? ⟨I,0,none⟩=some (.int .i64 ki)/\f.cell? ⟨I,1,none⟩=some (.string te)/\f.cell? ⟨I,2,none⟩=some (.string tx)/\f.cell? ⟨I,3,none⟩=some (.int .i64 nu)):=λf h=>⟨(A.o f h).cell 0,(A.o f h).cell 1,(A.o f h).cell 2,(A.o f h).cell 3⟩
    obtain⟨x0,x1,x2,x3⟩:=x.o W jD;go_region_held3 (λf=>f.cell? ⟨I,0,none⟩=some (.int .i64 ki)/\f.cell? ⟨I,1,none⟩=some (.string te)/\f.cell? ⟨I,2,none⟩=some (.string tx)/\f.cell? ⟨I,3,none⟩=some (.int .i64 nu))
     (first|go_keep|exact O|exact x.o _ t|exact x.o _ a0|exact x.o _ hc2|exact x.o _ Z)
     ((first
       |(go_at_call 68;(fail_if_success (have q:=Z));refine(HK1.o _).mono ?_;rintro e w1 ⟨rfl,hb1⟩;have Z:Below W.1.size W w1:=(Below.refl _ W).drew.trans hb1)
       |(go_at_call 104;refine(HS8.o _).mono ?_;rintro e w2 ⟨rfl,hb2⟩;have hc2:=xB Z hb2)
       |(go_at_call 75;refine(HS16.o _).mono ?_;rintro e w3 ⟨rfl,U⟩;have a0:=xB hc2 U)
       |(go_at_call 68;have q:=a0;clear q;refine(HN8.o _).mono ?_;rintro e w4 ⟨rfl,V⟩;have t:=xB a0 V)
       |(have q:=t;clear q;refine RM _ (by rfl) _ _ (by rfl) w.1.size _ G (m++n++z++K) (by rfl) (by exact R.o.1.z t) (by rfl) (by have:=t.size;omega) (by have:=HQ.o;omega) ?_;intro v5 w5 F hB5 hk5;have O:=SF (hk5 I (by have:=t.size;omega) (λe=>hngv (Lc (HGV.o.symm.trans e)))) (x.o _ t))))
    have HO5:=gB (Vc F ((xB R.o.2 t).trans hB5));clear F hB5 hk5 O;have hst5:(G++(m++n++z++K)).size<=10+(k+1)*3000000000:=by have:=HQ.o;omega
    clear hq5 hq6 hq7 hq8 n1 n2 n3;generalize G++(m++n++z++K)=st5 at *;go_wp2;exact⟨⟨k+1,st5,by omega,by go_num,hst5,E2.o,HA2.o,HO5.o.1,HO5.o.2⟩,by simp[intOf];omega⟩
   .have E:fB _:=ou C y d;rw[BD y]at v;generalize c[k].K=ki at *;generalize c[k].T=te at *;generalize c[k].X=tx at *;generalize c[k].U=nu at *;clear y u g;go_wp2_with fail;refine(v.o _).mono ?_;rintro e W ⟨rfl,r⟩;have BW:fB _:=xB (xB l aC) r;clear r v;go_wp2;go_ret;exact⟨by rw[E.o];rfl,BW.o⟩
  .have N:ri c:=λj h=>u.o j h (by omega);have E2:fB (G=aN d c):=by
    show _=_;rw[HST.o,Ra (by omega),HKB.o (HOK.o N)]
   have hbk:=BN g.o;rw[E2.o]at hbk;clear g N;go_wp2;go_ret;exact⟨rfl,l⟩
structure S0(n:Nat)(w wx:World)(a:nC)(cap:Nat)(c k cr fl:Int):Prop where
 dk:rB wx n #[uA a 0 cap,dB c,dB k,dB cr,dB fl,vA gA] 35
 rd:rB wx (n+1) #[uA eA 0 0,dB 0,dB 0,dB 0,dB 0,vA gA] 35
 rl:rB wx (n+1+1) #[dB 0,dB 0,dB 0] 37
 be:Below n w wx
section
variable {n:Nat} {w W W':jA} {a:nC} {cap:Nat} {c k cr fl:Int}
theorem S0.z(h:S0 n w W a cap c k cr fl)(b:zB W W'):S0 n w W' a cap c k cr fl:=⟨h.dk.z b,h.rd.z b,h.rl.z b,h.be.trans (b.mono (Vg (eB h.dk)))⟩
theorem S0.cells(h:S0 n w W a cap c k cr fl):(W.cell? (iB n 0)=fA (uA a 0 cap)/\W.cell? (iB n 1)=fA (dB c)/\W.cell? (iB n 2)=fA (dB k)/\W.cell? (iB n 3)=fA (dB cr)/\W.cell? (iB n 4)=fA (dB fl)/\W.cell? (iB n 5)=fA (vA gA))/\(W.cell? (iB (n+1) 0)=fA (uA eA 0 0)/\W.cell? (iB (n+1) 1)=fA (dB 0)/\W.cell? (iB (n+1) 2)=fA (dB 0)/\W.cell? (iB (n+1) 3)=fA (dB 0)/\W.cell? (iB (n+1) 4)=fA (dB 0)/\W.cell? (iB (n+1) 5)=fA (vA gA))/\(W.cell? (iB (n+1+1) 0)=fA (dB 0)/\W.cell? (iB (n+1+1) 1)=fA (dB 0)/\W.cell? (iB (n+1+1) 2)=fA (dB 0))/\(∀j,W.frozen? (iB n j)=gA)/\(∀j,W.frozen? (iB (n+1) j)=gA)/\(∀j,W.frozen? (iB (n+1+1) j)=gA)/\n+1+1<W.1.size:=
 ⟨h.dk.c6,h.rd.c6,h.rl.c3,h.dk.free,h.rd.free,h.rl.free,eB h.rl⟩
end
def ym(K:eE)(w:jA)(e:Ending)(f:jA):Prop:=
 ∃(d:nC)(b:Nat)(g:nC)(a:Nat),e=zA (.tuple #[yA #[uA d (cB K.fs) b,dB K.c,dB K.k,dB K.cr,dB K.fl,vA K.dn],yA #[dB 1,dB 1,dB 0],uA g 0 a,dB 0])/\wB f d K.fs/\zB w f
def aAu:(prog.info? 35).map (·.size)=fA 6:=by kernel_rfl
def aAx:(prog.info? 37).map (·.size)=fA 3:=by kernel_rfl
def aKd{j:Func}{t:Act}{w W:jA}{K:eE}{a f s:nC}{cap d n:Nat}{c k cr fl:Int}(G:j.results=#[.cell 2 35,.cell 3 37,.tmp 4,.tmp 5])(x:t.tmps.getD 2 undef=.pointer (cC (w.1.size+1)))(y:t.tmps.getD 3 undef=.pointer (cC (w.1.size+1+1)))(z:t.tmps.getD 4 undef=uA s 0 n)(A:t.tmps.getD 5 undef=dB 0)(F:t.defers=[])(H:S0 w.1.size w W a cap c k cr fl)(q:wB W f K.fs):
 bodyPost prog j (λe L=>ym K w e L) .ret t (((((((((W.setCell (iB (w.1.size+1) 0) (uA f (cB K.fs) d)).setCell (iB (w.1.size+1) 1) (dB K.c)).setCell (iB (w.1.size+1) 2) (dB K.k)).setCell (iB (w.1.size+1) 3) (dB K.cr)).setCell (iB (w.1.size+1) 4) (dB K.fl)).setCell (iB (w.1.size+1) 5) (vA K.dn)).setCell (iB (w.1.size+1+1) 0) (dB 1)).setCell (iB (w.1.size+1+1) 1) (dB 1)).setCell (iB (w.1.size+1+1) 2) (dB 0)):=by
 obtain⟨h,l⟩:∃h,h=((((((W.setCell (iB (w.1.size+1) 0) (uA f (cB K.fs) d)).setCell (iB (w.1.size+1) 1) (dB K.c)).setCell (iB (w.1.size+1) 2) (dB K.k)).setCell (iB (w.1.size+1) 3) (dB K.cr)).setCell (iB (w.1.size+1) 4) (dB K.fl)).setCell (iB (w.1.size+1) 5) (vA K.dn)):=⟨_,rfl⟩
 rw[<-l];obtain⟨W',p⟩:∃W',W'=((h.setCell (iB (w.1.size+1+1) 0) (dB 1)).setCell (iB (w.1.size+1+1) 1) (dB 1)).setCell (iB (w.1.size+1+1) 2) (dB 0):=⟨_,rfl⟩
 rw[<-p];have u:=l ▸ kQ _ _ _ _ _ _;have v:=p ▸ (((uD.refl _ _).setCell 0 _).setCell 1 _).setCell 2 _;have B:=((jB.but u).mono λi _ e=>Ca e).trans' ((jB.but v).mono λi _ e=>La e);have D:=rB.but (l ▸ MN H.rd) v (by omega);have E:rB W' (w.1.size+1+1) #[dB 1,dB 1,dB 0] 37:=by
  have:=(((H.rl.but u (by omega)).set 0 (dB 1)).set 1 (dB 1)).set 2 (dB 0);rw[p];simpa using this
 have C:=H.be.trans (B.below (Ua (Vg (eB H.dk)) (Ia _)) λi M e=>by omega);have m:=NV q B λb o e g=>by
  obtain g|g:=g;exact DN (aW q H.rd) e g;exact DN (GG q H.rl) e g
 have r:(results j t.tmps).run prog W'=.ok (.tuple #[yA #[uA f (cB K.fs) d,dB K.c,dB K.k,dB K.cr,dB K.fl,vA K.dn],yA #[dB 1,dB 1,dB 0],uA s 0 n,dB 0]) W':=by
  have I:=run_loadVar_row (P:=prog) W' (w.1.size+1) 35 35 _ (0,0) _ D underlying35 rfl (by rw[aAu];rfl);have J:=run_loadVar_row (P:=prog) W' (w.1.size+1+1) 37 37 _ (0,0) _ E underlying37 rfl (by rw[aAx];rfl);simp at x y z A;simp[results,G,x,y,z,A,asAddr,I,J]
 exact bodyPost_ret r F ⟨f,d,s,n,rfl,m,C⟩
def RK(a:nC)(cap:Nat)(c k cr fl:Int)(w:jA)(h:rE [] c k cr fl=true)(K:eE)(U:fF ⟨[],c,k,cr,fl,gA⟩ (pI 1)=(K,0)):
 lA prog 60 #[yA #[uA a 0 cap,dB c,dB k,dB cr,dB fl,vA gA]] w λe i=>ym K w e i:=by
 have m:=gB h;clear h;go_enter func60,ntmps60;go_upto_region 2 with fail;have f:=GO (w:=w) (x:=#[uA a 0 cap,dB c,dB k,dB cr,dB fl,vA gA]) (tx:=35) (y:=#[uA eA 0 0,dB 0,dB 0,dB 0,dB 0,vA gA]) (ty:=35) (z:=#[dB 0,dB 0,dB 0]) (tz:=37) (u:=#[]) (tu:=9) jD;generalize ((((w.alloc (aB #[uA a 0 cap,dB c,dB k,dB cr,dB fl,vA gA] 35)).alloc (aB #[uA eA 0 0,dB 0,dB 0,dB 0,dB 0,vA gA] 35)).alloc (aB #[dB 0,dB 0,dB 0] 37)).alloc (aB #[] 9))=h at *;have H:fB (S0 w.1.size w h a cap c k cr fl):=⟨f.1,f.2.1,f.2.2.1,f.2.2.2.2⟩
 clear f;obtain⟨⟨s,t,v,A,B,C⟩,-⟩:=H.o.cells;have l:=gB (rU a cap [] c k cr fl gA h (Ca rfl) bQ.H (by simp) bQ.sum);rw[m.o]at l;simp only[List.length_nil]at l;go_wp2_with fail;apply oC l.o;intro w4 m;replace H:=gB (H.o.z m);clear m s t v A B C l;obtain⟨⟨s,t,v,A,B,C⟩,⟨n,W,r2,r3,r4,r5⟩,⟨s0,s1,s2⟩,yd,yr,yl,o⟩:=H.o.cells;obtain⟨r,d,G,g,h,X,I⟩:=MY w4 a cap [] (Ca rfl) (by simp);simp only[List.length_nil]at g;have q:=gB g;have F:fB (S0 w.1.size w G a cap c k cr fl):=H.o.z X;have O:gD G w.1.size 0 (uA a 0 cap):=F.o.dk.cell 0;have b:=F.o.dk.free 0;have J:w.1.size<w4.1.size:=by omega
 clear g h X I;go_upto_region 4 with fail;go_cut [36] (λ_ h=>∃r d,S0 w.1.size w h r d c k cr fl)
 case first=>as_aux_lemma=>
  go_wp2_with(at_builtin;refine Lib.wpList_append_run _ rfl _ _ _ _ rfl _ _ rfl rfl _ _ q.o ?_);go_meet;have E:uD w.1.size G (G.setCell (iB w.1.size 0) (uA r 0 d)):=(uD.refl _ _).setCell 0 _;have G:=F.o.dk.set 0 (uA r 0 d);exact⟨r,d,by simpa using G,F.o.rd.but E (by omega),F.o.rl.but E (by omega),F.o.be.setCell (Ia _) _⟩
 clear F q O b J H s t v A B C n W r2 r3 r4 r5 s0 s1 s2 yd yr yl o;clear r d;obtain⟨r,d,G⟩:=hcut;rename jA=>I;have H:=gB G;clear G;obtain⟨⟨s,t,v,A,B,C⟩,⟨n,W,r2,r3,r4,r5⟩,⟨s0,s1,s2⟩,yd,yr,yl,o⟩:=H.o.cells;have G:w.1.size<I.1.size:=by omega
 go_upto_block 0 with fail;go_cut [7,47] (λG _ h=>G=uA (cC I.1.size) 0 0/\zB I h)
 case first=>as_aux_lemma=>
  go_wp2_with fail;go_loopw [7,47] (λG J wr=>J=dB 0/\G=uA (cC I.1.size) 0 0/\zB I wr) (λ_ J _=>0-(intOf J).toNat)
  case atStart=>exact⟨rfl,rfl,aC⟩
  case round=>
   obtain⟨rfl,rfl,Z⟩:=hrel;go_wp2;go_meet;exact⟨rfl,Z⟩
 obtain⟨rfl,Y⟩:=hcut;rename jA=>J;replace H:=gB (H.o.z Y);clear Y s t v A B C n W r2 r3 r4 r5 s0 s1 s2 yd yr yl o;obtain⟨⟨s,t,v,A,B,C⟩,-⟩:=H.o.cells;obtain⟨O,c1,I,L,N,M,Z,p,a0,Y⟩:=aGu (D:=⟨[],c,k,cr,fl,gA⟩) (op:=pI 1) bQ (by have:=pK 1;unfold maxLen;show(tF 1).size<=_;omega) (by show(0:Nat)<=_;omega) (by show(0:Nat)<=_;omega);have G:fB (iU ⟨[],c,k,cr,fl,gA⟩ ⟨1,tF 1,⟨#[]⟩,⟨#[]⟩,0⟩ ⟨O,c1,I,L,N,M⟩ Z):=Y;unfold iU at G;simp only[List.length_nil]at G;rw[U]at p;obtain rfl:=(Prod.mk.inj p).1;obtain rfl:=(Prod.mk.inj p).2;clear p Y a0 U;go_upto_region 15 with fail;go_cut [10,11] (λU Y h=>∃P,U=.pointer (cC P)/\Y=dB 0/\PX J P O c1 I L N M h)
 case first=>as_aux_lemma=>
  have j:=gB (λi(h:zB J i)=>(H.o.dk.z h).c6);go_region_held3 (λi=>i.cell? (iB w.1.size 0)=fA (uA r 0 d)/\i.cell? (iB w.1.size 1)=fA (dB c)/\i.cell? (iB w.1.size 2)=fA (dB k)/\i.cell? (iB w.1.size 3)=fA (dB cr)/\i.cell? (iB w.1.size 4)=fA (dB fl)/\i.cell? (iB w.1.size 5)=fA (vA gA))
   (first|go_keep|with_reducible exact j.o _ (xg S (Ia _))|with_reducible exact j.o _ (xg S R.size)|with_reducible exact j.o _ S|with_reducible exact j.o _ R|with_reducible exact j.o _ (xB R aC)|with_reducible exact j.o _ (aC.drew)|with_reducible exact j.o _ (xB S aC))
   (first
   |(go_at_call 135;apply oC (tQ _ _);intro v2 Q;have R:zB J v2:=(by first|with_reducible exact xB jD.drew Q|with_reducible exact xB (aC.drew) Q);have c2:=j.o _ R;(first|(have T:=aJ Q)|skip))
   |(go_at_call 57;refine(G.o _ _ _ (Ca rfl)).mono ?_;rintro e v3 ⟨a2,V,rfl,h,f⟩;have U:=gB h;have S:zB J v3:=(by first|with_reducible exact xB R f|with_reducible exact xB (xB R aC) f);have h:=j.o _ S;(first|(have T:=T.z f)|(have T:rB _ v2.1.size _ _:=cM f)|skip);(try (obtain⟨h,h,h,h,h,h⟩:=T.c6;have b:=T.free))))
  all_goals(go_wp2_with fail;go_meet)
  all_goals first
   |with_reducible exact⟨_,rfl,rfl,mu U.o S⟩
   |exact⟨_,rfl,rfl,mv U.o S (by first|exact Ia _|exact R.size) T⟩
 obtain⟨P,rfl,rfl,a2,V,h,h,G,m⟩:=hcut;rename jA=>J;replace H:=gB (H.o.z m);clear s t v A B C;obtain⟨⟨s,t,v,A,B,C⟩,⟨n,W,r2,r3,r4,r5⟩,⟨s0,s1,s2⟩,yd,yr,yl,o⟩:=H.o.cells;obtain⟨m,m,m,m,m,m⟩:=h.c6;go_wp2;exact aKd (K:=⟨O,c1,I,L,N,M⟩) rfl rfl rfl rfl rfl rfl H.o G
section
open Go.Maps
def ib{P:Program}{w:jA}{b:Array Oper}{o:Oper}{a:Act}{K:Act->jA->Prop}{Q:Exit->Act->jA->Prop}{E:Prop}{f:FuncId}{args:Array mA}(c:o.guard=eA)(i:(execOp a.eval o).run P w=.ok (.enter f args) w)
(h:lA P f args w (λe d=>∃v,e=zA v/\K (a.put o.dst v) d)):if Region.wanted o (yielded b a.tmps)=true then Oper.wp P o a w K Q else E:=by
 have j:Region.wanted o (yielded b a.tmps)=true:=by simp[Region.wanted,c]
 rw[Ma j];unfold Oper.wp;rw[i];refine h.mono ?_;rintro e d ⟨v,rfl,g⟩;exact g
def go(m:Nat)(L:List (kB×Nat))(w:jA)(h:w.ownsMap prog 9 wE m (cB L) (fE (L.map λp=>(p.1.N,nF p.2))))(j:zC (λp:kB×Nat=>p.1.N) L)(k:cB L<=1000000000):
 lA prog 86 #[.func (.func 157) #[] #[.pointer (cC w.1.size)]] (w.alloc (aB #[.map (fA m)] 167)) λe f=>∃v,e=zA v/\f.ownsRow w.1.size 9 1 v (cB L) (L.map λp=>tA p.1.N)/\zB w f:=by
 have c:Maps.size (fE (L.map λp=>(p.1.N,nF p.2)))=cB L:=by rw[pM]
 refine lA.mono (callsIn_wide.1 (slices_Sorted_keys_86_87 m _ _ wE w h (by rw[c];unfold maxLen;omega) (by rw[c];omega))) ?_;rintro e l ⟨v,h,rfl,d,a,_,g⟩;have i:(strKeys (fE (L.map λp=>(p.1.N,nF p.2))))=L.map λp=>p.1.N.data.toList:=by
  rw[sU,Vd];rfl
 rw[i]at d;have b:cB h=cB L:=by rw[d.length_eq,Xa]
 rw[IL (key:=λp:kB×Nat=>p.1.N) j d,NQ (λp:kB×Nat=>p.1.N),b]at a;exact⟨v,rfl,FG a (by simp),xB aC g⟩
def wt{W:jA}{B:Nat}{e:TypeId}{v:mA}{L:List (kB×Nat)}(h:W.ownsRow B e 1 v (cB L) (L.map λp=>tA p.1.N)):
 ∃j o,v=uA j (cB L) o/\(L=[]\/∃g,j=cC g/\B<=g/\g<W.1.size/\∀i(h:i<cB L),W.cell? (iB g i)=fA (tA L[i].1.N)):=by
 obtain⟨rfl,f⟩|⟨g,b,a,rfl,k,d,_,_,n,c⟩:=h.2;refine ⟨eA,0,by rw[f],Ca (Nb.1 f)⟩;refine ⟨_,b,rfl,La ⟨g,rfl,k,eB d,λi m=>?_⟩⟩;have l:=rB.cell (show rB W g a e from d) i;rw[l,<-Yd];have:(a.toList.take (cB L*1))[i]?=(L.map λp=>mA.string p.1.N)[i]?:=by rw[c]
 rw[Ye,Ma (by omega)]at this;rw[this,Se,Va m];rfl
def aBu{w:jA}{B:Nat->Prop}{T:Nat->Option Nat}{l m:Nat}{c:kC}{d:Int}{L:List (kB×Nat)}{M:Nat}(h:xK w B T l m c d L M)(i:Nat)(j:i<cB L)(k:L[i].1.N.size<=maxLen):
 ∃x S,∀W,zB w W->W.cell? (iB l 7)=fA (.map (fA m))/\(Instr.lookup 167 (.map (fA m)) (tA L[i].1.N) gA).run prog W=.ok (.pointer (cC x)) W/\yD W S x L[i].1 M:=by
 have f:=Gb j;refine⟨L[i].2,_,λW b=>⟨(h.blk.z b).cell 7,?_,(h.idx _ f).z b⟩⟩;obtain⟨v,n,a,g⟩:=jA.ownsMap.lookup ((jB.of b).map (S:=λ_=>False) h.ten (λe=>e)) pL underlying167 (show(zeroValue 174).run prog W=.ok (xA eA) W by kernel_rfl) (zd:=.nil) (zp:=[]) rfl (zM k);rw[a];rw[lS (key:=λq:kB×Nat=>q.1.N) (λq=>nF q.2),gM (key:=λq:kB×Nat=>q.1.N) h.rise f]at g;rw[rQ g]
def UD(l m:Nat)(c:kC)(s:Int)(B:Nat->Prop)(ts:List kB)(M:Nat)(w:jA)(h:jE w B l m c s ts M)(z:aKp ts)(hlen:cB ts<=2000000):
 lA prog 25 #[xA (fA ⟨l,0,eA⟩)] w λe w'=>∃a C,e=zA (yA #[qA sA s,uA a (cB ts) C])/\cD w' w.1.size a ts/\zB w w':=by
 obtain⟨T0,L,h,rfl⟩:=h;rw[Xa]at hlen |-
 have c6:gD w l 6 (qA sA s):=h.blk.cell 6;have hll:=eB h.blk;have HL7:fB (∀W,zB w W->gD W l 7 (.map (fA m))):=λW hW=>(h.blk.z hW).cell 7;have HLK:fB _:=λi K=>aBu h i K (z _ (Tc (Gb K))).1;have e0:fB (∀i(K:i<cB L) x S W,yD W S x L[i].1 M->lA prog 88 #[xA (fA ⟨x,0,eA⟩),tA L[i].1.N] W λe w'=>GF W L[i].1.N L[i].1 e w'):=λi K x S W hix=>by
  obtain⟨_,b,d,p,r⟩:=z _ (Tc (f:=(·.1)) (Gb K));refine(ic x L[i].1.N L[i].1 S M W hix b d (by omega) (by omega)).mono ?_;rintro e w' ⟨v1,v2,M',rfl,r1,hM1,hM2,hM3,r2,hb⟩;obtain⟨a1,c1,rfl⟩:=nK r1;obtain⟨a2,c2,rfl⟩:=nK r2;exact⟨M',a1,c1,a2,c2,rfl,hM2,rD r1,λg o e=>hM1 g (by rw[e];rfl),rD r2,hM3,hb⟩
 have c0:fB _:=λW hW=>go m L W ((jB.of hW).map (S:=λ_=>False) h.ten (λe=>e)) h.rise (by omega);have Y:fB _:=λW=>callsIn_wide.1 (maps_Keys_87 (fA m) W);unfold GF at e0;clear h z;have B2:fB (zB w ((w.alloc (aB #[qA sA 0,uA eA 0 0] 40)).alloc (aB #[qA sA s,uA eA 0 0] 40))):=xB aC aC;have c7:=HL7.o _ B2.o;go_enter func25,ntmps25;go_wp2_with fail;apply oC (Y.o _);rintro w1 rfl;have X2:fB _:=gB (by have:=rB.new (w.alloc (aB #[qA sA 0,uA eA 0 0] 40)) #[qA sA s,uA eA 0 0] 40;simpa using this);have Y2:fB (rB ((w.alloc (aB #[qA sA 0,uA eA 0 0] 40)).alloc (aB #[qA sA s,uA eA 0 0] 40)) w.1.size #[qA sA 0,uA eA 0 0] 40):=(rB.new _ _ _).alloc _;clear c7 c6;generalize (w.alloc (aB #[qA sA 0,uA eA 0 0] 40)).alloc (aB #[qA sA s,uA eA 0 0] 40)=w2 at *;go_wp2_with fail;refine(c0.o _ B2.o).mono ?_;rintro e E ⟨kv,rfl,G,D⟩;obtain⟨ka,kc,rfl,hks⟩:=wt G;have HKS:=gB hks;have B3:fB _:=xB B2.o D;have X3:fB (rB E (w.1.size+1) #[qA sA s,uA eA 0 0] 40):=X2.o.z D;have Y3:fB (rB E w.1.size #[qA sA 0,uA eA 0 0] 40):=Y2.o.z D;have HX2:fB _:=eB X2.o;clear G hks D X2 Y2 B2 c0 Y;go_wp2;go_loopw [5,18] (λ_ i wr=>∃(k:Nat)(v:mA),k<=cB L/\i=qA sA k/\fB (rB wr (w.1.size+1) #[qA sA s,v] 40)/\fB (jQ wr E.1.size 105 v k ((L.take k).map (·.1)))/\fB (jB (·=w.1.size+1) E wr)) (λ_ i _=>cB L-(intOf i).toNat)
 case atStart=>exact⟨0,uA eA 0 0,Oa _,rfl,X3.o,jQ.nil _ _ _,jB.refl _ _⟩
 case round=>
  obtain⟨k,v,hk,rfl,R,b0,y⟩:=hrel;have V:fB _:=(((jB.of (S:=λi=>w.1.size<=i) B3.o).trans' (y.o.mono λi _ e=>by omega)).below (Ia _) λi K h=>by omega)
  by_cases u:k<cB L
  .have hks2:∃g,ka=fA ⟨g,0,eA⟩/\w2.1.size<=g/\g<E.1.size/\∀i(h:i<cB L),gD E g i (tA L[i].1.N):=by
    obtain h0|h0:=HKS.o;rw[h0]at u;exact absurd u (by simp);exact h0
   obtain⟨g,rfl,hg1,hg2,hgc⟩:=hks2;have hx2:=HX2.o;have hkey:=(jA.cell?_of_block (y.o.block g hg2 (by omega))).trans (hgc k u);obtain⟨x,S,Z⟩:=HLK.o k u;have HQ:=gB Z;have HTK:=gB (e0.o k u x S);have HLT:fB ((L.take (k+1)).map (·.1)=(L.take k).map (·.1)++[L[k].1]):=by show _=_;rw[Pa u,Ld];rfl
   have HLL:fB (cB ((L.take k).map (·.1))=k):=by show _=_;rw[Xa,Hb];omega
   have hsz3:=y.o.size;have hB3s:=B3.o.size;clear hgc Z;generalize (L.take k).map (·.1)=TS at *;generalize L[k].1=t at *;obtain⟨T,ys,I,hV2,hV3,hV4⟩:=b0.o;have HV1:=gB I;have g0:=gB hV2;have HV3:=gB hV3;have HV4:=gB hV4;have Q:=λq hq=>I.lt q hq;have agv:v.ownBlock≠fA (w.1.size+1):=λe=>by have:=(Q _ e).1;omega
   have X:fB (∀W,zB wr W->gD W (w.1.size+1) 1 v):=λW hW=>(R.o.z hW).cell 1;have v5:gD wr (w.1.size+1) 1 v:=R.o.cell 1;obtain⟨q1,q2,q3⟩:=HQ.o wr.drew V.o.drew;have Q3:=gB q3;clear I hV2 hV3 hV4 q3;go_wp2_with fail;go_region_law
    (first
     |((fail_if_success (have q:=J));refine ib (f:=88) (args:=#[xA (fA ⟨x,0,eA⟩),tA t.N]) rfl (by go_simp) ?_;refine(HTK.o _ Q3.o).mono ?_;rintro e U ⟨M4,a1,d1,a2,d2,rfl,hM,o1,o1M,o2,oM,J⟩;have A:zB wr U:=xB jD.drew J;have x4:=X.o _ A;have x5:(U.alloc (aB #[tA t.N,qA sA t.L,uA a1 (cB t.M) d1,uA a2 (cB t.Z) d2] 105)).cell? ⟨w.1.size+1,1,eA⟩=fA v:=X.o _ (xB A aC);have O:=gB (Vc hM (Vc o1 (Vc o1M (Vc o2 oM))));clear hM o1 o1M o2 oM;refine⟨_,rfl,?_⟩)
     |(have q:=J;clear q;refine dS (by rfl) _ _ (by rfl) underlying38 wN rfl (by omega) (by omega) (by rfl) (by exact lC HV1.o A) (by rfl) (by rfl) (cs:=#[tA t.N,qA sA t.L,uA a1 (cB t.M) d1,uA a2 (cB t.Z) d2]) rfl (by simp[mA.oneCell']) (by omega) (by have:=A.size;omega) ?_;intro gg C w5 O5 T5 A5;have H:=gB (T5.o.blk (R.o.z A) (λe=>by have:=e.1;omega));have s5:=H.o.cell 1;have j:=H.o.free 1))
   all_goals(
    have hsz4:=A.size;have hgg:(v.ownBlock=fA gg/\gg<wr.1.size)\/U.1.size<=gg:=A5.o.imp_left λh=>⟨h,(Q _ h).2⟩
    obtain⟨h1,h3,h4⟩:=oR (R.o.z A) T5.o O5.o (by omega) 1;have N:=λg(hg:g<U.1.size)(F:E.1.size<=g)(P:v.ownBlock≠fA g)=>h4.block g hg (λe=>by obtain e|e:=e;omega;exact P e.2)
    have HX6:=gB h1;have HT6:=gB (y.o.trans ((jB.of A).trans' (h4.mono λi _ e=>e.imp_right And.left)));have HR6:fB (jQ (w5.setCell ⟨w.1.size+1,1,eA⟩ (uA (fA ⟨gg,0,eA⟩) (k+1) C)) E.1.size 105 (uA (fA ⟨gg,0,eA⟩) (k+1) C) (k+1) ((L.take (k+1)).map (·.1))):=by
     refine gB ?_;rw[HLT.o];have hyk:cB ys=k:=by have h1:=HLL.o;rw[<-g0.o,Xa]at h1;exact h1
     exact jQ.snoc (wr:=wr) (w4:=U) (M:=M4) (v:=v) (T:=T) (ys:=ys) h3 g0.o hyk HV3.o HV4.o (by omega) O.o.1
      (λg hg F P=>(N g (by omega) F P).trans (A.block g hg))
      (λg hg hg4=>N g hg4 (by omega) (λe=>by have:=(Q _ e).2;omega))
      O.o.2.1 O.o.2.2.1 O.o.2.2.2.1 hgg hsz4 O.o.2.2.2.2)
   all_goals clear h1 h3 h4 O5 T5 A5 s5 j H N
   all_goals go_wp2
   all_goals exact⟨⟨k+1,_,by omega,by go_num,gB (by simpa using HX6.o),HR6.o,HT6.o⟩,by simp[intOf];omega⟩
  .have ek:k=cB L:=by omega
   have a0:fB (jQ wr E.1.size 105 v (cB L) (L.map (·.1))):=by
    have:=b0.o;rw[ek,Rb]at this;exact this
   obtain⟨ra,rc,rfl⟩:=a0.o.row;have YW:fB (rB wr w.1.size #[qA sA 0,uA eA 0 0] 40):=y.o.blk Y3.o (by omega);have x0:gD wr (w.1.size+1) 0 (qA sA s):=R.o.cell 0;have x1:gD wr (w.1.size+1) 1 (uA ra (cB L) rc):=R.o.cell 1;have y0:gD wr w.1.size 0 (qA sA 0):=YW.o.cell 0;have y1:gD wr w.1.size 1 (uA eA 0 0):=YW.o.cell 1;have n:=YW.o.free 0;have b:=YW.o.free 1;have h31:=eB X3.o;go_wp2;have d0:jB (·=w.1.size) wr ((wr.setCell ⟨w.1.size,0,eA⟩ (qA sA s)).setCell ⟨w.1.size,1,eA⟩ (uA ra (cB L) rc)):=((jB.refl (·=w.1.size) wr).setCell (Ca rfl) 0 _).setCell (Ca rfl) 1 _;refine bodyPost_ret (v:=yA #[qA sA s,uA ra (cB L) rc]) (by simp[results,results25,go_sem,y0,y1]) rfl ⟨ra,rc,rfl,((a0.o.turn d0 (λg e=>by omega)).own (by rw[Xa])).mono (by omega),((jB.of (S:=λi=>w.1.size<=i) V.o).trans' (d0.mono λi _ e=>by omega)).below (Ia _) λi K h=>by omega⟩
end
def CT{k:jA}{B g n o:Nat}{e:TypeId}{f:List TV}(h:k.ownsRow B e 4 (uA (cC g) n o) n (mF f))(x:cB f=n):
 ∀i(v:i<cB f),k.cell? (iB g (i*4))=fA (tA f[i].t.N)/\k.cell? (iB g (i*4+1))=fA (dB f[i].t.L)/\k.cell? (iB g (i*4+2))=fA (.slice f[i].a1 (cB f[i].t.M) f[i].c1)/\k.cell? (iB g (i*4+3))=fA (.slice f[i].a2 (cB f[i].t.Z) f[i].c2)/\k.frozen? (iB g (i*4+2))=gA/\k.frozen? (iB g (i*4+3))=gA:=by
 intro i v;obtain⟨m,_⟩|⟨z,s,p,m,A,u,_,_,y,r⟩:=h.2
 .cases m
 simp only[mA.slice.injEq,Qa,Addr.mk.injEq,Cc]at m;rw[<-m.1]at u;have q:rB k g p e:=u;obtain⟨a,b,c,d⟩:=TF f i v;have l:∀j,j<cB f*4->k.cell? (iB g j)=(mF f)[j]?:=λj w=>by
  rw[q.cell j,<-Yd,<-r,Jb (by rw[<-x];exact w)]
 refine⟨?_,?_,?_,?_,q.free _,q.free _⟩;rw[l _ (by omega)];exact a;rw[l _ (by omega)];exact b;rw[l _ (by omega)];exact c;rw[l _ (by omega)];exact d
def US{w:jA}{B n b:Nat}{e:TypeId}{v:mA}{j:List mA}(h:w.ownsRow B e b v n j):∃a c,v=uA a n c:=by
 obtain⟨d,i⟩|⟨g,f,_,d,_⟩:=h.2;exact ⟨eA,0,by rw[d,i]⟩;exact ⟨_,_,d⟩
def UU{w:jA}{B d:Nat}{e:TypeId}{a:Nat}{v:mA}{n:Nat}{f:List mA}(h:w.ownsRow B e a v n f)(i:d<=B):w.ownsRow d e a v n f:=
 ⟨h.1,h.2.imp id (fun⟨g,b,c,e,j,r⟩=>⟨g,b,c,e,Ua i j,r⟩)⟩
def vn(l:List TV)(k:Nat)(d:k<cB l)(Y:TV)(a:Y.t=l[k].t):(l.set k Y).map (·.t)=l.map (·.t):=by
 refine List.ext_getElem (by simp) (λi b c=>?_);simp only[List.getElem_map,List.getElem_set];split
 .rename_i e;subst e;exact a
 rfl
def AR(o:Int)(a:nC)(p:Nat)(n:List kB)(w:jA)(I:uC w a n)(h:cB n<=2000000)(Q:∀t∈n,cB t.M<=2000000/\cB t.Z<=2000000):
 lA prog 89 #[yA #[dB o,uA a (cB n) p]] w λe G=>∃a' m,e=zA (yA #[dB o,uA a' (cB n) m])/\cD G w.1.size a' n/\zB w G:=by
 have m:fB _:=λW N=>jj a p n w W I N h;have HFT:=gB Q;clear I Q;have B0:fB (zB w ((w.alloc (aB #[dB o,uA a (cB n) p] 40)).alloc (aB #[dB 0,uA eA 0 0] 40))):=xB aC aC;have P0:fB (rB ((w.alloc (aB #[dB o,uA a (cB n) p] 40)).alloc (aB #[dB 0,uA eA 0 0] 40)) w.1.size #[dB o,uA a (cB n) p] 40):=(rB.new _ _ _).alloc _;have Q0:fB _:=gB (by have:=rB.new (w.alloc (aB #[dB o,uA a (cB n) p] 40)) #[dB 0,uA eA 0 0] 40;simpa using this);have h:w.1.size+1<((w.alloc (aB #[dB o,uA a (cB n) p] 40)).alloc (aB #[dB 0,uA eA 0 0] 40)).1.size:=by simp
 go_enter func89,ntmps89;go_wp2_with fail;refine(m.o _ B0.o).mono ?_;rintro e x ⟨v,E,rfl,h,J,U,A⟩;have O:fB (rB x w.1.size #[dB o,uA a (cB n) p] 40):=P0.o.z A;have Q1:fB (rB x (w.1.size+1) #[dB 0,uA eA 0 0] 40):=Q0.o.z A;have I:fB _:=xB B0.o A;have Y:=gB h;have a0:=gB J;have Z:=gB U;have y0:gD x w.1.size 1 (uA a (cB n) p):=O.o.cell 1;have fy:=O.o.free 1;have hs1:=A.size;clear h J U A P0 Q0 B0 m;generalize ((w.alloc (aB #[dB o,uA a (cB n) p] 40)).alloc (aB #[dB 0,uA eA 0 0] 40))=V at *;have m:fB (jB (·=w.1.size) x (x.setCell (iB w.1.size 1) v)):=(jB.refl (·=w.1.size) x).setCell (Ca rfl) 1 _;have P2:fB _:=gB (by have:=O.o.set 1 v;simpa using this);have Q2:fB (rB (x.setCell (iB w.1.size 1) v) (w.1.size+1) #[dB 0,uA eA 0 0] 40):=m.o.blk Q1.o (by omega);have X:fB _:=I.o.trans (m.o.below (by have:=I.o.size;omega) λi hi e=>by omega);have O2:fB ((x.setCell (iB w.1.size 1) v).ownsRow V.1.size 105 4 v (cB n) (mF E)):=m.o.row Y.o (λq h e=>by have:=(Y.o.lt q h).1;omega);obtain⟨hv,h⟩|⟨g,s,J,hv,J,_⟩:=Y.o.2
 .subst hv;have J:=Nb.1 h;have x1:(x.setCell (iB w.1.size 1) (uA eA 0 0)).cell? (iB w.1.size 1)=fA (uA eA 0 0):=P2.o.cell 1;subst J;go_wp2;clear y0 fy x1 m O Q1 I Y O2;generalize (x.setCell (iB w.1.size 1) (uA eA 0 0))=H at *;go_loopw [12] (λi wr=>i=dB 0/\H=wr) (λ_ _=>0)
  case atStart=>exact⟨rfl,rfl⟩
  case round=>
   obtain⟨rfl,h⟩:=hrel;subst h;have z:=Q2;have P:=P2;have BW:=X;have z0:gD H (w.1.size+1) 0 (dB 0):=z.o.cell 0;have z1:gD H (w.1.size+1) 1 (uA eA 0 0):=z.o.cell 1;have fz0:=z.o.free 0;have fz1:=z.o.free 1;have s0:gD H w.1.size 0 (dB o):=P.o.cell 0;have U:gD H w.1.size 1 (uA eA 0 0):=P.o.cell 1;go_wp2;have J:jB (·=w.1.size+1) H ((H.setCell (iB (w.1.size+1) 0) (dB o)).setCell (iB (w.1.size+1) 1) (uA eA 0 0)):=((jB.refl (·=w.1.size+1) H).setCell (Ca rfl) 0 _).setCell (Ca rfl) 1 _;refine bodyPost_ret (v:=yA #[dB o,uA eA 0 0]) (by simp[results,results89,go_sem,z0,z1]) rfl ?_;have ho:cD ((H.setCell (iB (w.1.size+1) 0) (dB o)).setCell (iB (w.1.size+1) 1) (uA eA 0 0)) w.1.size eA []:=Ca rfl;have D:=((jB.of (S:=λi=>w.1.size<=i) BW.o).trans' (J.mono λi _ e=>by omega)).below (Ia _) λi hi h=>by omega
   first
    |exact⟨eA,⟨0,rfl⟩,ho,D⟩
    |exact⟨eA,0,rfl,ho,D⟩
 subst hv;have x1:(x.setCell (iB w.1.size 1) (uA (cC g) (cB n) s)).cell? (iB w.1.size 1)=fA (uA (cC g) (cB n) s):=P2.o.cell 1;have HC0:fB (qy w (x.setCell (iB w.1.size 1) (uA (cC g) (cB n) s)) V.1.size g (cB n) s (λ_=>0) E 0 gA):=by
  have hyl:cB E=cB n:=by rw[<-a0.o,Xa]
  refine gB { row:=O2.o,len:=hyl,tg:=rfl,own:=λi _ h=>absurd h (by omega),half:=λh=>(by cases h),old:=λi hi _=>?_};obtain⟨p1,p2⟩:=Z.o E[i] (Gb hi);exact⟨p2,λ_=>p1⟩
 go_wp2;clear y0 fy x1 m O Q1 I Y O2 Z;have I:V.1.size<=(x.setCell (iB w.1.size 1) (uA (cC g) (cB n) s)).1.size:=by simp;exact hs1
 generalize (x.setCell (iB w.1.size 1) (uA (cC g) (cB n) s))=H at *;go_loopw [12] (λi wr=>∃(k:Nat)(T:Nat->Nat)(m:List TV),k<=cB n/\i=dB k/\fB (qy w wr V.1.size g (cB n) s T m k gA)/\fB (m.map (·.t)=n)/\fB (rB wr w.1.size #[dB o,uA (cC g) (cB n) s] 40)/\fB (rB wr (w.1.size+1) #[dB 0,uA eA 0 0] 40)/\fB (zB w wr)/\V.1.size<=wr.1.size) (λi _=>cB n-(intOf i).toNat)
 case atStart=>exact⟨0,_,E,Oa _,rfl,HC0.o,a0.o,P2.o,Q2.o,X.o,I⟩
 case round=>
  obtain⟨k,T,m,I,rfl,O,HY,P,z,BW,I⟩:=hrel;clear HC0 a0 P2 Q2 X;have hyl:cB m=cB n:=by rw[<-HY.o,Xa]
  by_cases I:k<cB n
  .have r:k<cB m:=by omega
   obtain⟨c0,c1,c2,c3,j,l⟩:=CT O.o.row O.o.len k r;have U:gD wr w.1.size 1 (uA (cC g) (cB n) s):=P.o.cell 1;go_wp2;have y:=uF wr (aB #[tA m[k].t.N,dB m[k].t.L,.slice m[k].a1 (cB m[k].t.M) m[k].c1,.slice m[k].a2 (cB m[k].t.Z) m[k].c2] 105);have BX:fB (rB (wr.alloc (aB #[tA m[k].t.N,dB m[k].t.L,.slice m[k].a1 (cB m[k].t.M) m[k].c1,.slice m[k].a2 (cB m[k].t.Z) m[k].c2] 105)) wr.1.size #[tA m[k].t.N,dB m[k].t.L,.slice m[k].a1 (cB m[k].t.M) m[k].c1,.slice m[k].a2 (cB m[k].t.Z) m[k].c2] 105):=rB.new _ _ _;have CB:fB _:=O.o.keep (S:=λ_=>False) (jB.of y) (λ_ e=>e.elim);have L:=gB (P.o.z y);have RQb:=gB (z.o.z y);have Z:fB _:=xB BW.o y;have hsb:V.1.size<=(wr.alloc (aB #[tA m[k].t.N,dB m[k].t.L,.slice m[k].a1 (cB m[k].t.M) m[k].c1,.slice m[k].a2 (cB m[k].t.Z) m[k].c2] 105)).1.size:=by have:=y.size;omega
   have I:=(O.o.row.lt g rfl).2;have I:wr.1.size<(wr.alloc (aB #[tA m[k].t.N,dB m[k].t.L,.slice m[k].a1 (cB m[k].t.M) m[k].c1,.slice m[k].a2 (cB m[k].t.Z) m[k].c2] 105)).1.size:=by simp
   obtain⟨I,M⟩:=O.o.old k r (Ia _);have M:=M (Ca rfl);have R:m[k].t∈n:=by rw[<-HY.o];exact Md.2 ⟨m[k],Gb r,rfl⟩
   obtain⟨Y,hl2⟩:=HFT.o _ R;have HM:fB (∀u W,zB w u->zB u W->lA prog 161 #[.slice m[k].a1 (cB m[k].t.M) m[k].c1] W λe G=>∃v,e=zA v/\G.ownsRow u.1.size 107 2 v (cB m[k].t.M) (flatK m[k].t.M)/\zB u G):=λu W h0 N=>(ji m[k].a1 m[k].c1 m[k].t.M W (M.z (xB h0 N)) Y).mono λe G ⟨v,h1,h2,h3⟩=>⟨v,h1,UU h2 N.size,xB N h3⟩
   have HS:fB (∀u W,zB w u->zB u W->lA prog 162 #[.slice m[k].a2 (cB m[k].t.Z) m[k].c2] W λe G=>∃v,e=zA v/\G.ownsRow u.1.size 109 2 v (cB m[k].t.Z) (flatK m[k].t.Z)/\zB u G):=λu W h0 N=>(jk m[k].a2 m[k].c2 m[k].t.Z W (I.z (xB h0 N)) hl2).mono λe G ⟨v,h1,h2,h3⟩=>⟨v,h1,UU h2 N.size,xB N h3⟩
   clear c0 c1 c2 c3 j l U M I R Y hl2 O P z BW;generalize (wr.alloc (aB #[tA m[k].t.N,dB m[k].t.L,.slice m[k].a1 (cB m[k].t.M) m[k].c1,.slice m[k].a2 (cB m[k].t.Z) m[k].c2] 105))=wb at *;have U:gD wb w.1.size 1 (uA (cC g) (cB n) s):=L.o.cell 1;have b2:gD wb wr.1.size 2 (.slice m[k].a1 (cB m[k].t.M) m[k].c1):=BX.o.cell 2;clear y;go_region_law
    (refine jF (f:=161) (args:=#[.slice m[k].a1 (cB m[k].t.M) m[k].c1]) rfl (by go_simp) ?_;refine(HM.o wb _ Z.o jD.drew).mono ?_;rintro e G ⟨v5,rfl,Y,B⟩;obtain⟨I,W,rfl⟩:=US Y;obtain⟨_,_,c25,_,b,_⟩:=CT (lC CB.o.row B) CB.o.len k r;have s15:=(L.o.z B).cell 1;have O5:=gB Y;have hsz5:=B.size;have B5:=gB B;clear Y B;refine⟨_,rfl,?_⟩)
   all_goals(
    have F:jB (·=g) G (G.setCell (iB g (k*4+2)) (.slice I (cB m[k].t.M) W)):=(jB.refl (·=g) G).setCell (Ca rfl) _ _;have C6:=gB (CB.o.limits r B5.o hsb O5.o);have K:=gB (F.blk (L.o.z B5.o) (show ¬w.1.size=g by omega));have RQ6:=gB (F.blk (RQb.o.z B5.o) (show ¬w.1.size+1=g by omega));have BX6:=gB (F.blk (BX.o.z B5.o) (show ¬wr.1.size=g by omega));have Y:fB _:=(xB Z.o B5.o).trans (F.below (by omega) λi hi e=>by omega);have hs6:V.1.size<=(G.setCell (iB g (k*4+2)) (.slice I (cB m[k].t.M) W)).1.size:=by simp;omega
    have hw6:wr.1.size<(G.setCell (iB g (k*4+2)) (.slice I (cB m[k].t.M) W)).1.size:=by simp;omega
    clear c25 b s15 F U b2 CB L RQb BX Z;generalize (G.setCell (iB g (k*4+2)) (.slice I (cB m[k].t.M) W))=G at *;generalize (λg=>if g<wb.1.size then T g else 2*k+1)=Z at *)
   all_goals(
    have U:gD G w.1.size 1 (uA (cC g) (cB n) s):=K.o.cell 1;have b3:gD G wr.1.size 3 (.slice m[k].a2 (cB m[k].t.Z) m[k].c2):=BX6.o.cell 3)
   all_goals go_wp2_with fail
   all_goals go_region_law
    (refine jF (f:=162) (args:=#[.slice m[k].a2 (cB m[k].t.Z) m[k].c2]) rfl (by go_simp) ?_;refine(HS.o G _ Y.o jD.drew).mono ?_;rintro e G ⟨Z,rfl,d0,C⟩;obtain⟨Z,d7,rfl⟩:=US d0;obtain⟨_,_,_,c37,_,d⟩:=CT (lC C6.o.row C) C6.o.len k (by simpa using r);have s17:=(K.o.z C).cell 1;have O7:=gB d0;have hsz7:=C.size;have B7:=gB C;clear d0 C;refine⟨_,rfl,?_⟩)
   all_goals(
    have F:jB (·=g) G (G.setCell (iB g (k*4+3)) (.slice Z (cB m[k].t.Z) d7)):=(jB.refl (·=g) G).setCell (Ca rfl) _ _;have hk6:k<cB (m.set k ⟨m[k].t,I,W,m[k].a2,m[k].c2⟩):=by simpa using r
    have C8:=C6.o.series (a:=Z) (c:=d7) hk6 B7.o hs6 (by simp only[Oe];exact O7.o);simp only[Oe,List.set_set]at C8;have C8:=gB C8;have RP8:=gB (F.blk (K.o.z B7.o) (show ¬w.1.size=g by omega));have RQ8:=gB (F.blk (RQ6.o.z B7.o) (show ¬w.1.size+1=g by omega));have BW8:fB _:=(xB Y.o B7.o).trans (F.below (by omega) λi hi e=>by omega);have hs8:V.1.size<=(G.setCell (iB g (k*4+3)) (.slice Z (cB m[k].t.Z) d7)).1.size:=by simp;omega
    have HY8:fB _:=(vn m k r ⟨m[k].t,I,W,Z,d7⟩ rfl).trans HY.o;clear c37 d s17 F U b3 C6 K RQ6 BX6 Y;generalize (G.setCell (iB g (k*4+3)) (.slice Z (cB m[k].t.Z) d7))=m at *
    go_wp2
    exact⟨⟨k+1,_,_,by omega,by go_num,C8.o,HY8.o,RP8.o,RQ8.o,BW8.o,hs8⟩,by simp[intOf];omega⟩)
  have m:k=cB n:=by omega
  subst m;have m:=O;clear O;have z0:gD wr (w.1.size+1) 0 (dB 0):=z.o.cell 0;have z1:gD wr (w.1.size+1) 1 (uA eA 0 0):=z.o.cell 1;have fz0:=z.o.free 0;have fz1:=z.o.free 1;have s0:gD wr w.1.size 0 (dB o):=P.o.cell 0;have U:gD wr w.1.size 1 (uA (cC g) (cB n) s):=P.o.cell 1;go_wp2;have J:jB (·=w.1.size+1) wr ((wr.setCell (iB (w.1.size+1) 0) (dB o)).setCell (iB (w.1.size+1) 1) (uA (cC g) (cB n) s)):=((jB.refl (·=w.1.size+1) wr).setCell (Ca rfl) 0 _).setCell (Ca rfl) 1 _;refine bodyPost_ret (v:=yA #[dB o,uA (cC g) (cB n) s]) (by simp[results,results89,go_sem,z0,z1]) rfl ?_;have ho:cD ((wr.setCell (iB (w.1.size+1) 0) (dB o)).setCell (iB (w.1.size+1) 1) (uA (cC g) (cB n) s)) w.1.size (cC g) n:=(cD.mono (cD.turned (m.o.done HY.o) J (λq h1 h2 e=>by omega)) (by omega))
  have D:=((jB.of (S:=λi=>w.1.size<=i) BW.o).trans' (J.mono λi _ e=>by omega)).below (Ia _) λi hi h=>by omega
  first
   |exact⟨(fA ⟨g,0,eA⟩),⟨s,rfl⟩,ho,D⟩
   |exact⟨(fA ⟨g,0,eA⟩),s,rfl,ho,D⟩
