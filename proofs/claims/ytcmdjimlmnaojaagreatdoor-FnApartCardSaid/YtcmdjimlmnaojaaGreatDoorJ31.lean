import Derived.Test.YtcmdjimlmnaojaaGreatDoorJ27
import Derived.Test.YtcmdjimlmnaojaaGreatDoorJ28
set_option maxRecDepth 100000
set_option maxHeartbeats 40000000
set_option linter.defProp false
open Bool renaming false->dA
open Option renaming none->aA,some->cA
open List renaming length->zA
namespace Go.Proofs.YtcmdjimlmnaojaaGreatDoor
open Go renaming World->fA,Calls->iA,Value->jA
open Value renaming agg->uA,string->pA,bool->sA,slice->qA,pointer->tA,int->mA
open Ending renaming returned->vA
open Obj renaming cells->xA
open IntKind renaming i64->oA
open Go.RowKit Tryz
def rn(x b a:Int):yB x b a=decide (b<=x/\x<=a):=by
 unfold yB;by_cases c:b<=x<;>by_cases d:x<=a<;>simp[c,d]
def XF{x:pB}:(x.toList==[])=decide (x.size=0):=by
 rw[ByteArray.toList_eq];cases h:x.data.toList with
 |nil=>
  have b:x.size=0:=by have:zA x.data.toList=0:=by rw[h];rfl
                      simpa using this
  simp[b]
 |cons a l=>
  have b:x.size≠0:=by have:zA x.data.toList=zA l+1:=by rw[h];rfl
                      simp at this;omega
  simp[b]
def jw(d c:Int)(a b:pB)(w:fA)(s:a.size<=1000000000)(t:b.size<=1000000000):
 cF 168 #[uA #[aB d,pA a,pA b,aB c]] w (sA (bd ⟨d,a,b,c⟩)):=by
 by_cases o:a.size > 255
 .have E:cB (bd ⟨d,a,b,c⟩=dA):=dB (BB λh=>by have:=h.1;simp only at this;omega);have j:(a.size:Int) > 255:=by omega
  go_enter func168,ntmps168;go_wp2;go_ret;exact⟨oB E.o.symm,bC⟩
 have j:¬(a.size:Int) > 255:=by omega
 by_cases p:b.size > 65535
 .have E:cB (bd ⟨d,a,b,c⟩=dA):=dB (BB λh=>by have:=h.2.1;simp only at this;omega);have k:(b.size:Int) > 65535:=by omega
  go_enter func168,ntmps168;go_wp2;go_ret;exact⟨oB E.o.symm,bC⟩
 have k:¬(b.size:Int) > 65535:=by omega
 by_cases l:d=1
 .subst l;have E:cB (bd ⟨1,a,b,c⟩=(c==0)):=dB (by
   by_cases h:c=0
   .rw[VU (show yO ⟨1,a,b,c⟩ from⟨by simp only;omega,by simp only;omega,Ca ⟨rfl,h⟩⟩)];simp[h]
   rw[BB (show ¬yO ⟨1,a,b,c⟩ from λf=>f.2.2.elim (λg=>h g.2) (λg=>g.elim (λg=>absurd g.1 (show ¬(1:Int)=2 by decide)) (λg=>absurd g (show ¬(1:Int)=3 by decide))))];simp[h])
  go_enter func168,ntmps168;go_wp2;go_ret;exact⟨oB E.o.symm,bC⟩
 by_cases m:d=2
 .subst m;by_cases i:a.size=0
  .have E:cB (bd ⟨2,a,b,c⟩=(b.toList==[])):=dB (by
    rw[XF];by_cases h:b.size=0
    .rw[VU (show yO ⟨2,a,b,c⟩ from⟨by simp only;omega,by simp only;omega,La (Ca ⟨rfl,i,h⟩)⟩),Ac h]
    rw[BB (show ¬yO ⟨2,a,b,c⟩ from λf=>f.2.2.elim (λg=>absurd g.1 (show ¬(2:Int)=1 by decide)) (λg=>g.elim (λg=>h g.2.2) (λg=>absurd g (show ¬(2:Int)=3 by decide)))),Ub h])
   have q:(a.toList==[])=true:=by rw[XF];exact Ac i
   clear i o p;go_enter func168,ntmps168;go_wp2;go_ret;exact⟨oB (by rw[E.o];first|rfl|simp),bC⟩
  .have E:cB (bd ⟨2,a,b,c⟩=dA):=dB (BB λf=>f.2.2.elim (λg=>absurd g.1 (show ¬(2:Int)=1 by decide)) (λg=>g.elim (λg=>i g.2.1) (λg=>absurd g (show ¬(2:Int)=3 by decide))));have q:(a.toList==[])=dA:=by rw[XF];exact Ub i
   clear i o p;go_enter func168,ntmps168;go_wp2;go_ret;exact⟨oB E.o.symm,bC⟩
 by_cases n:d=3
 .subst n;have E:cB (bd ⟨3,a,b,c⟩=true):=dB (VU ⟨by simp only;omega,by simp only;omega,La (La rfl)⟩);go_enter func168,ntmps168;go_wp2;go_ret;exact⟨oB E.o.symm,bC⟩
 have E:cB (bd ⟨d,a,b,c⟩=dA):=dB (BB λf=>f.2.2.elim (λg=>l g.1) (λg=>g.elim (λg=>m g.1) (λg=>n g)));go_enter func168,ntmps168;go_wp2;go_ret;exact⟨oB E.o.symm,bC⟩
def aJg(a:List nE):Prop:=∀i(h:i<zA a),a[i].T.size<=1000000000/\a[i].X.size<=1000000000
def aNa:Op:=Op.convert 9 22 (Operand.tmp 24)
theorem js(d:Int)(a:Option Addr)(p:Nat)(c:List nE)(w:World)(hf:yI w a c)(hB:aJg c)(hR:WV c)(B:WU d)(hlen:c.length<=2000000):
 Calls prog 100 #[.agg #[.int .i64 d,.slice a c.length p]] w λe f=>e=.returned (.string (oO d c))/\Below w.1.size w f:=by
 have HW1:cB (∀W,Calls prog 86 #[.int .i64 d,.int .i64 1,.int .i64 1000000000000000] W λe f=>e=.returned (.bool (decide (1<=d/\d<=1000000000000000)))/\f=W):=λW=>by have:=uD d 1 1000000000000000 W;rw[rn]at this;exact this
 have HW2:cB (∀W,Calls prog 86 #[.int .i64 (c.length:Nat),.int .i64 1,.int .i64 500] W λe f=>e=.returned (.bool (decide (1<=((c.length:Nat):Int)/\((c.length:Nat):Int)<=500)))/\f=W):=λW=>by have:=uD (c.length:Nat) 1 500 W;rw[rn]at this;exact this
 have Q:cB (decide (1<=d/\d<=1000000000000000)=false\/decide (1<=((c.length:Nat):Int)/\((c.length:Nat):Int)<=500)=false->oO d c=ByteArray.empty):=λh=>MC λhh=>by
  obtain⟨h1,h2,h3,h4,-⟩:=hh;rcases h with h|h<;>exact of_decide_eq_false h ⟨by omega,by omega⟩
 have HN2:cB (decide (1<=d/\d<=1000000000000000)=true->decide (1<=((c.length:Nat):Int)/\((c.length:Nat):Int)<=500)=true->(1<=d/\d<=1000000000000000)/\1<=((c.length:Nat):Int)/\((c.length:Nat):Int)<=500):=λh h'=>⟨Wd h,Wd h'⟩
 generalize decide (1<=d/\d<=1000000000000000)=d1 at *;generalize decide (1<=((c.length:Nat):Int)/\((c.length:Nat):Int)<=500)=d2 at *;go_enter func100,ntmps100;go_wp2_with fail;refine rD (HW1.o _) ?_;cases d1
 .have E:=dB (Q.o (by simp));go_wp2;go_ret;exact⟨by rw[E.o];rfl,bC⟩
 go_wp2_with fail;refine rD (HW2.o _) ?_;cases d2
 .have E:=dB (Q.o (by simp));go_wp2;go_ret;exact⟨by rw[E.o];rfl,bC⟩
 obtain⟨c1,c3⟩:=HN2.o (by simp) (by simp);clear HW1 HW2 Q HN2;have HF:cB (yI w a c):=hf;have HB:cB (aJg c):=hB;have HR:cB (WV c):=hR;have M:cB (∀W,Calls prog 49 #[.int .i64 8,.int .i64 d] W λe f=>e=.returned (.string (tB 8 d))/\Below W.1.size W f):=λW=>mD 8 d W (by omega) B.1 B.2;have L:cB (∀W,Calls prog 49 #[.int .i64 2,.int .i64 (c.length:Nat)] W λe f=>e=.returned (.string (tB 2 (c.length:Nat)))/\Below W.1.size W f):=λW=>mD 2 (c.length:Nat) W (by omega) (by omega) (by omega);have hz8:=nB 8 d;have hz2:=nB 2 (c.length:Nat);have HKB:cB (fY d c->oO d c=tB 8 d++tB 2 (c.length:Nat)++aN c):=λh=>MD h;have HOK:cB (uu c->fY d c):=λh=>⟨by omega,by omega,by omega,by omega,h⟩
 generalize tB 8 d=T at *;generalize tB 2 (c.length:Nat)=S at *;have hz10:(T++S).size=10:=by rw[Ka,hz8,hz2]
 obtain⟨CV,CN,hcv,hcn⟩:=DZ (T++S) (by omega);have J:cB _:=hcn;clear hf hB hR B hcn;go_upto_region 3 with fail;have X6:cB (jB (w.alloc (.cells #[.int .i64 d,.slice a c.length p] 109)) w.1.size #[.int .i64 d,.slice a c.length p] 109):=jB.new _ _ _;have B0:cB (Below w.1.size w (w.alloc (.cells #[.int .i64 d,.slice a c.length p] 109))):=bC;generalize w.alloc (.cells #[.int .i64 d,.slice a c.length p] 109)=H at *;have A:cB (∀f,Below H.1.size H f->f.cell? ⟨w.1.size,0,none⟩=some (.int .i64 d)/\f.cell? ⟨w.1.size,1,none⟩=some (.slice a c.length p)):=λf h=>by
  have q:=X6.o.z h;exact⟨q.cell 0,q.cell 1⟩
 obtain⟨x0,x1⟩:=A.o H gD;go_cut [3] (λs wx=>dN wx H.1.size s (T++S)/\Below H.1.size H wx)
 case first=>
  rw[show Op.convert 9 22 (Operand.tmp 24)=aNa from rfl];have hop:aNa=Op.convert 9 22 (Operand.tmp 24):=rfl;go_region_held3 (λf=>f.cell? ⟨w.1.size,0,none⟩=some (.int .i64 d)/\f.cell? ⟨w.1.size,1,none⟩=some (.slice a c.length p))
   (first|go_keep|exact A.o _ (aC k4 (J.o _).2)|exact A.o _ k4|exact A.o _ k3)
   (first
    |(go_at_call 49;(fail_if_success (have q:=k3));refine(M.o _).mono ?_;rintro e w3 ⟨rfl,U⟩;have k3:Below H.1.size H w3:=(by exact aC gD.drew U))
    |(go_at_call 49;have q:=k3;clear q;refine(L.o _).mono ?_;rintro e w4 ⟨rfl,V⟩;have k4:Below H.1.size H w4:=(by exact aC k3 V)))
  all_goals(go_wp2_with fail;go_meet)
  all_goals exact⟨(J.o _).1.mono k4.size,aC k4 (J.o _).2⟩
 obtain⟨D,Y⟩:=hcut;rename World=>w5;have B5:cB _:=aC B0.o Y;have HBL:cB (dN w5 w.1.size u3 (T++S)):=D.mono B0.o.size;have HK5:cB _:=λf h=>A.o f (aC Y h);obtain⟨y0,y1⟩:=HK5.o w5 gD;clear x0 x1 A X6 D Y B0 M L HK5 J hcv;go_wp2;go_loopw [3,5,29] (λout _ i wr=>∃(k:Nat)(G:ByteArray),k<=c.length/\i=.int .i64 k/\G.size<=10+k*3000000000/\cB (G=T++S++aN (c.take k))/\cB (∀j(h:j<c.length),j<k->yO c[j])/\cB (dN wr w.1.size out G)/\Below w.1.size w wr) (λ_ _ i _=>c.length-(intOf i).toNat)
 case atStart=>
  exact⟨0,T++S,Oa _,rfl,by omega,by show _=_;simp[aN],λj _ h=>absurd h (by omega),HBL.o,B5.o⟩
 case round=>
  obtain⟨k,G,hk,rfl,hst,HST,u,g,l⟩:=hrel;by_cases C:k<c.length
  .obtain ⟨b,o,rfl,hb,c0,c1,c2,c3⟩:=(HF.o.z l).at C;obtain⟨hn1,hn2⟩:=HB.o k C;obtain⟨b0,d0⟩:=HR.o k C;have v:cB (∀W,Calls prog 168 #[.agg #[.int .i64 c[k].K,.string c[k].T,.string c[k].X,.int .i64 c[k].U]] W λe f=>e=.returned (.bool (bd c[k]))/\Below W.1.size W f):=λW=>jw _ _ _ _ W hn1 hn2;by_cases y:yO c[k]
   .rw[VU y]at v;have HK1:cB (∀W,Calls prog 49 #[.int .i64 1,.int .i64 c[k].K] W λe f=>e=.returned (.string (tB 1 c[k].K))/\Below W.1.size W f):=λW=>mD 1 _ W (by omega) b0.1 b0.2;have HS8:cB _:=λW=>cQ c[k].T W hn1;have HS16:cB _:=λW=>gO c[k].X W hn2;have HN8:cB (∀W,Calls prog 49 #[.int .i64 8,.int .i64 c[k].U] W λe f=>e=.returned (.string (tB 8 c[k].U))/\Below W.1.size W f):=λW=>mD 8 _ W (by omega) d0.1 d0.2;have hq1:=nB 1 c[k].K;have hq2:=sF c[k].T;have hq3:=eF c[k].X;have hq4:=nB 8 c[k].U;have HA2:cB (∀j(h:j<c.length),j<k+1->yO c[j]):=λj h hj=>by
     rcases Gc j k with h1|h1
     .exact u.o j h h1
     .obtain rfl:j=k:=by omega
      exact y
    have HT:=mu c k C;have E2:cB (G++(tB 1 c[k].K++gN c[k].T++dG c[k].X++tB 8 c[k].U)=T++S++aN (c.take (k+1))):=by show _=_;rw[HT,HST.o,XW,Wa]
    clear HT y u b0 d0;generalize tB 1 c[k].K=m at *;generalize gN c[k].T=n at *;generalize dG c[k].X=z at *;generalize tB 8 c[k].U=K at *;generalize c[k].K=ki at *;generalize c[k].T=te at *;generalize c[k].X=tx at *;generalize c[k].U=nu at *;have hq5:(m++n).size=m.size+n.size:=Ka;have hq6:(m++n++z).size=m.size+n.size+z.size:=by rw[Ka,hq5]
    have hq7:(m++n++z++K).size=m.size+n.size+z.size+K.size:=by rw[Ka,hq6]
    have hq8:(G++(m++n++z++K)).size=G.size+(m.size+n.size+z.size+K.size):=by rw[Ka,hq7]
    have n1:¬(9223372036854775807<m.size+n.size):=by omega
    have n2:¬(9223372036854775807<m.size+n.size+z.size):=by omega
    have n3:¬(9223372036854775807<m.size+n.size+z.size+K.size):=by omega
    have HQ:cB (m.size=1/\n.size=1+te.size/\z.size=2+tx.size/\K.size=8):=⟨hq1,hq2,hq3,hq4⟩
    clear hq1 hq2 hq3 hq4;obtain⟨gv,hgv,hgv1,hgv2⟩:=g.o.lt;have P:=dB (jB.new wr #[.int .i64 ki,.string te,.string tx,.int .i64 nu] 119);have HBW:=dB (zF wr (.cells #[.int .i64 ki,.string te,.string tx,.int .i64 nu] 119));go_wp2_with fail;refine(v.o _).mono ?_;rintro e W ⟨rfl,r⟩;have A:=dB (λf(h:Below W.1.size W f)=>(P.o.z r).z h);have X:=aC HBW.o r;have R:=dB (Vc (g.o.z X) (aC l X));have hBX:=bB (P.o.z r);have hww:=R.o.2.size;have hngv:gv≠wr.1.size:=by omega
    have HGV:=dB hgv;clear g P hb c0 c1 c2 c3 l r X HBW v hgv hgv1 hgv2;go_wp2_with fail;generalize wr.1.size=I at *;clear wr;have x:cB (∀f,Below W.1.size W f->f.cell? ⟨I,0,none⟩=some (.int .i64 ki)/\f.cell? ⟨I,1,none⟩=some (.string te)/\f.cell? ⟨I,2,none⟩=some (.string tx)/\f.cell? ⟨I,3,none⟩=some (.int .i64 nu)):=λf h=>⟨(A.o f h).cell 0,(A.o f h).cell 1,(A.o f h).cell 2,(A.o f h).cell 3⟩
    obtain⟨x0,x1,x2,x3⟩:=x.o W gD;go_region_held3 (λf=>f.cell? ⟨I,0,none⟩=some (.int .i64 ki)/\f.cell? ⟨I,1,none⟩=some (.string te)/\f.cell? ⟨I,2,none⟩=some (.string tx)/\f.cell? ⟨I,3,none⟩=some (.int .i64 nu))
     (first|go_keep|exact O|exact x.o _ t|exact x.o _ a0|exact x.o _ hc2|exact x.o _ Z)
     ((first
       |(go_at_call 49;(fail_if_success (have q:=Z));refine(HK1.o _).mono ?_;rintro e w1 ⟨rfl,hb1⟩;have Z:Below W.1.size W w1:=(Below.refl _ W).drew.trans hb1)
       |(go_at_call 87;refine(HS8.o _).mono ?_;rintro e w2 ⟨rfl,hb2⟩;have hc2:=aC Z hb2)
       |(go_at_call 57;refine(HS16.o _).mono ?_;rintro e w3 ⟨rfl,U⟩;have a0:=aC hc2 U)
       |(go_at_call 49;have q:=a0;clear q;refine(HN8.o _).mono ?_;rintro e w4 ⟨rfl,V⟩;have t:=aC a0 V)
       |(have q:=t;clear q;refine SW _ (by rfl) _ _ (by rfl) w.1.size _ G (m++n++z++K) (by rfl) (by exact R.o.1.z t) (by rfl) (by have:=t.size;omega) (by have:=HQ.o;omega) ?_;intro v5 w5 F hB5 hk5;have O:=TY (hk5 I (by have:=t.size;omega) (λe=>hngv (Lc (HGV.o.symm.trans e)))) (x.o _ t))))
    have HO5:=dB (Vc F ((aC R.o.2 t).trans hB5));clear F hB5 hk5 O;have hst5:(G++(m++n++z++K)).size<=10+(k+1)*3000000000:=by have:=HQ.o;omega
    clear hq5 hq6 hq7 hq8 n1 n2 n3;generalize G++(m++n++z++K)=st5 at *;go_wp2;exact⟨⟨k+1,st5,by omega,by go_num,hst5,E2.o,HA2.o,HO5.o.1,HO5.o.2⟩,by simp[intOf];omega⟩
   .have E:cB _:=qz C y d;rw[BB y]at v;generalize c[k].K=ki at *;generalize c[k].T=te at *;generalize c[k].X=tx at *;generalize c[k].U=nu at *;clear y u g;go_wp2_with fail;refine(v.o _).mono ?_;rintro e W ⟨rfl,r⟩;have BW:cB _:=aC (aC l bC) r;clear r v;go_wp2;go_ret;exact⟨by rw[E.o];rfl,BW.o⟩
  .have N:uu c:=λj h=>u.o j h (by omega);have E2:cB (G=oO d c):=by
    show _=_;rw[HST.o,Ra (by omega),HKB.o (HOK.o N)]
   have hbk:=BN g.o;rw[E2.o]at hbk;clear g N;go_wp2;go_ret;exact⟨rfl,l⟩
structure S0(n:Nat)(w wx:World)(a:nC)(cap:Nat)(c k cr fl:Int):Prop where
 dk:jB wx n #[qA a 0 cap,aB c,aB k,aB cr,aB fl,sA dA] 35
 rd:jB wx (n+1) #[qA aA 0 0,aB 0,aB 0,aB 0,aB 0,sA dA] 35
 rl:jB wx (n+1+1) #[aB 0,aB 0,aB 0] 37
 be:Below n w wx
section
variable {n:Nat} {w W W':fA} {a:nC} {cap:Nat} {c k cr fl:Int}
theorem S0.z(h:S0 n w W a cap c k cr fl)(b:xB W W'):S0 n w W' a cap c k cr fl:=⟨h.dk.z b,h.rd.z b,h.rl.z b,h.be.trans (b.mono (Vg (bB h.dk)))⟩
theorem S0.cells(h:S0 n w W a cap c k cr fl):(W.cell? (eB n 0)=cA (qA a 0 cap)/\W.cell? (eB n 1)=cA (aB c)/\W.cell? (eB n 2)=cA (aB k)/\W.cell? (eB n 3)=cA (aB cr)/\W.cell? (eB n 4)=cA (aB fl)/\W.cell? (eB n 5)=cA (sA dA))/\(W.cell? (eB (n+1) 0)=cA (qA aA 0 0)/\W.cell? (eB (n+1) 1)=cA (aB 0)/\W.cell? (eB (n+1) 2)=cA (aB 0)/\W.cell? (eB (n+1) 3)=cA (aB 0)/\W.cell? (eB (n+1) 4)=cA (aB 0)/\W.cell? (eB (n+1) 5)=cA (sA dA))/\(W.cell? (eB (n+1+1) 0)=cA (aB 0)/\W.cell? (eB (n+1+1) 1)=cA (aB 0)/\W.cell? (eB (n+1+1) 2)=cA (aB 0))/\(∀j,W.frozen? (eB n j)=dA)/\(∀j,W.frozen? (eB (n+1) j)=dA)/\(∀j,W.frozen? (eB (n+1+1) j)=dA)/\n+1+1<W.1.size:=
 ⟨h.dk.c6,h.rd.c6,h.rl.c3,h.dk.free,h.rd.free,h.rl.free,bB h.rl⟩
end
def aAs(K:xD)(w:fA)(e:Ending)(f:fA):Prop:=
 ∃(d:nC)(b:Nat)(g:nC)(a:Nat),e=vA (.tuple #[uA #[qA d (zA K.fs) b,aB K.c,aB K.k,aB K.cr,aB K.fl,sA K.dn],uA #[aB 1,aB 1,aB 0],qA g 0 a,aB 0])/\uB f d K.fs/\xB w f
def aCt:(prog.info? 35).map (·.size)=cA 6:=by kernel_rfl
def aCv:(prog.info? 37).map (·.size)=cA 3:=by kernel_rfl
def aMa{j:Func}{t:Act}{w W:fA}{K:xD}{a f s:nC}{cap d n:Nat}{c k cr fl:Int}(G:j.results=#[.cell 2 35,.cell 3 37,.tmp 4,.tmp 5])(x:t.tmps.getD 2 undef=.pointer (vB (w.1.size+1)))(y:t.tmps.getD 3 undef=.pointer (vB (w.1.size+1+1)))(z:t.tmps.getD 4 undef=qA s 0 n)(A:t.tmps.getD 5 undef=aB 0)(F:t.defers=[])(H:S0 w.1.size w W a cap c k cr fl)(q:uB W f K.fs):
 bodyPost prog j (λe L=>aAs K w e L) .ret t (((((((((W.setCell (eB (w.1.size+1) 0) (qA f (zA K.fs) d)).setCell (eB (w.1.size+1) 1) (aB K.c)).setCell (eB (w.1.size+1) 2) (aB K.k)).setCell (eB (w.1.size+1) 3) (aB K.cr)).setCell (eB (w.1.size+1) 4) (aB K.fl)).setCell (eB (w.1.size+1) 5) (sA K.dn)).setCell (eB (w.1.size+1+1) 0) (aB 1)).setCell (eB (w.1.size+1+1) 1) (aB 1)).setCell (eB (w.1.size+1+1) 2) (aB 0)):=by
 obtain⟨h,l⟩:∃h,h=((((((W.setCell (eB (w.1.size+1) 0) (qA f (zA K.fs) d)).setCell (eB (w.1.size+1) 1) (aB K.c)).setCell (eB (w.1.size+1) 2) (aB K.k)).setCell (eB (w.1.size+1) 3) (aB K.cr)).setCell (eB (w.1.size+1) 4) (aB K.fl)).setCell (eB (w.1.size+1) 5) (sA K.dn)):=⟨_,rfl⟩
 rw[<-l];obtain⟨W',p⟩:∃W',W'=((h.setCell (eB (w.1.size+1+1) 0) (aB 1)).setCell (eB (w.1.size+1+1) 1) (aB 1)).setCell (eB (w.1.size+1+1) 2) (aB 0):=⟨_,rfl⟩
 rw[<-p];have u:=l ▸ xJ _ _ _ _ _ _;have v:=p ▸ (((sD.refl _ _).setCell 0 _).setCell 1 _).setCell 2 _;have B:=((fB.but u).mono λi _ e=>Ca e).trans' ((fB.but v).mono λi _ e=>La e);have D:=jB.but (l ▸ gY H.rd) v (by omega);have E:jB W' (w.1.size+1+1) #[aB 1,aB 1,aB 0] 37:=by
  have:=(((H.rl.but u (by omega)).set 0 (aB 1)).set 1 (aB 1)).set 2 (aB 0);rw[p];simpa using this
 have C:=H.be.trans (B.below (Ua (Vg (bB H.dk)) (Ia _)) λi M e=>by omega);have m:=OL q B λb o e g=>by
  obtain g|g:=g;exact DS (kS q H.rd) e g;exact DS (GV q H.rl) e g
 have r:(results j t.tmps).run prog W'=.ok (.tuple #[uA #[qA f (zA K.fs) d,aB K.c,aB K.k,aB K.cr,aB K.fl,sA K.dn],uA #[aB 1,aB 1,aB 0],qA s 0 n,aB 0]) W':=by
  have I:=run_loadVar_row (P:=prog) W' (w.1.size+1) 35 35 _ (0,0) _ D underlying35 rfl (by rw[aCt];rfl);have J:=run_loadVar_row (P:=prog) W' (w.1.size+1+1) 37 37 _ (0,0) _ E underlying37 rfl (by rw[aCv];rfl);simp at x y z A;simp[results,G,x,y,z,A,asAddr,I,J]
 exact bodyPost_ret r F ⟨f,d,s,n,rfl,m,C⟩
def SU(a:nC)(cap:Nat)(c k cr fl:Int)(w:fA)(h:wE [] c k cr fl=true)(K:xD)(hK:cE ⟨[],c,k,cr,fl,dA⟩ (sG 1)=(K,0)):
 iA prog 40 #[uA #[qA a 0 cap,aB c,aB k,aB cr,aB fl,sA dA]] w λe i=>aAs K w e i:=by
 have m:=dB h;clear h;go_enter func40,ntmps40;go_upto_region 2 with fail;have f:=IH (w:=w) (x:=#[qA a 0 cap,aB c,aB k,aB cr,aB fl,sA dA]) (tx:=35) (y:=#[qA aA 0 0,aB 0,aB 0,aB 0,aB 0,sA dA]) (ty:=35) (z:=#[aB 0,aB 0,aB 0]) (tz:=37) (u:=#[]) (tu:=9) gD;generalize ((((w.alloc (xA #[qA a 0 cap,aB c,aB k,aB cr,aB fl,sA dA] 35)).alloc (xA #[qA aA 0 0,aB 0,aB 0,aB 0,aB 0,sA dA] 35)).alloc (xA #[aB 0,aB 0,aB 0] 37)).alloc (xA #[] 9))=h at *;have H:cB (S0 w.1.size w h a cap c k cr fl):=⟨f.1,f.2.1,f.2.2.1,f.2.2.2.2⟩
 clear f;obtain⟨⟨s,t,v,A,B,C⟩,-⟩:=H.o.cells;have l:=dB (uU a cap [] c k cr fl dA h (Ca rfl) vO.H (by simp) vO.sum);rw[m.o]at l;simp only[List.length_nil]at l;go_wp2_with fail;apply jC l.o;intro w4 m;replace H:=dB (H.o.z m);clear m s t v A B C l;obtain⟨⟨s,t,v,A,B,C⟩,⟨n,W,r2,r3,r4,r5⟩,⟨s0,s1,s2⟩,yd,yr,yl,o⟩:=H.o.cells;obtain⟨r,d,G,g,h,X,I⟩:=NS w4 a cap [] (Ca rfl) (by simp);simp only[List.length_nil]at g;have q:=dB g;have F:cB (S0 w.1.size w G a cap c k cr fl):=H.o.z X;have O:yC G w.1.size 0 (qA a 0 cap):=F.o.dk.cell 0;have b:=F.o.dk.free 0;have J:w.1.size<w4.1.size:=by omega
 clear g h X I;go_upto_region 4 with fail;go_cut [36] (λ_ h=>∃r d,S0 w.1.size w h r d c k cr fl)
 case first=>as_aux_lemma=>
  go_wp2_with(at_builtin;refine Lib.wpList_append_run _ rfl _ _ _ _ rfl _ _ rfl rfl _ _ q.o ?_);go_meet;have E:sD w.1.size G (G.setCell (eB w.1.size 0) (qA r 0 d)):=(sD.refl _ _).setCell 0 _;have G:=F.o.dk.set 0 (qA r 0 d);exact⟨r,d,by simpa using G,F.o.rd.but E (by omega),F.o.rl.but E (by omega),F.o.be.setCell (Ia _) _⟩
 clear F q O b J H s t v A B C n W r2 r3 r4 r5 s0 s1 s2 yd yr yl o;clear r d;obtain⟨r,d,G⟩:=hcut;rename fA=>I;have H:=dB G;clear G;obtain⟨⟨s,t,v,A,B,C⟩,⟨n,W,r2,r3,r4,r5⟩,⟨s0,s1,s2⟩,yd,yr,yl,o⟩:=H.o.cells;have G:w.1.size<I.1.size:=by omega
 go_upto_block 0 with fail;go_cut [7,47] (λG _ h=>G=qA (vB I.1.size) 0 0/\xB I h)
 case first=>as_aux_lemma=>
  go_wp2_with fail;go_loopw [7,47] (λG J wr=>J=aB 0/\G=qA (vB I.1.size) 0 0/\xB I wr) (λ_ J _=>0-(intOf J).toNat)
  case atStart=>exact⟨rfl,rfl,bC⟩
  case round=>
   obtain⟨rfl,rfl,Z⟩:=hrel;go_wp2;go_meet;exact⟨rfl,Z⟩
 obtain⟨rfl,Y⟩:=hcut;rename fA=>J;replace H:=dB (H.o.z Y);clear Y s t v A B C n W r2 r3 r4 r5 s0 s1 s2 yd yr yl o;obtain⟨⟨s,t,v,A,B,C⟩,-⟩:=H.o.cells;obtain⟨O,c1,I,L,N,M,x1,p,Z,Y⟩:=MQ (D:=⟨[],c,k,cr,fl,dA⟩) (op:=sG 1) vO (by have:=fO 1;unfold maxLen;show(sH 1).size<=_;omega) (by show(0:Nat)<=_;omega) (by show(0:Nat)<=_;omega);have G:cB (cY ⟨[],c,k,cr,fl,dA⟩ ⟨1,sH 1,⟨#[]⟩,⟨#[]⟩,0⟩ ⟨O,c1,I,L,N,M⟩ x1):=Y;unfold cY at G;simp only[List.length_nil]at G;rw[hK]at p;obtain rfl:=(Prod.mk.inj p).1;obtain rfl:=(Prod.mk.inj p).2;clear p Y Z hK;go_upto_region 15 with fail;go_cut [10,11] (λY Z h=>∃P,Y=.pointer (vB P)/\Z=aB 0/\PX J P O c1 I L N M h)
 case first=>as_aux_lemma=>
  have j:=dB (λi(h:xB J i)=>(H.o.dk.z h).c6);go_region_held3 (λi=>i.cell? (eB w.1.size 0)=cA (qA r 0 d)/\i.cell? (eB w.1.size 1)=cA (aB c)/\i.cell? (eB w.1.size 2)=cA (aB k)/\i.cell? (eB w.1.size 3)=cA (aB cr)/\i.cell? (eB w.1.size 4)=cA (aB fl)/\i.cell? (eB w.1.size 5)=cA (sA dA))
   (first|go_keep|with_reducible exact j.o _ (zv S (Ia _))|with_reducible exact j.o _ (zv S R.size)|with_reducible exact j.o _ S|with_reducible exact j.o _ R|with_reducible exact j.o _ (aC R bC)|with_reducible exact j.o _ (bC.drew)|with_reducible exact j.o _ (aC S bC))
   (first
   |(go_at_call 98;apply jC (dR _ _);intro v2 Q;have R:xB J v2:=(by first|with_reducible exact aC gD.drew Q|with_reducible exact aC (bC.drew) Q);have c2:=j.o _ R;(first|(have T:=mL Q)|skip))
   |(go_at_call 37;refine(G.o _ _ _ (Ca rfl)).mono ?_;rintro e v3 ⟨a2,V,rfl,h,f⟩;have U:=dB h;have S:xB J v3:=(by first|with_reducible exact aC R f|with_reducible exact aC (aC R bC) f);have h:=j.o _ S;(first|(have T:=T.z f)|(have T:jB _ v2.1.size _ _:=pO f)|skip);(try (obtain⟨h,h,h,h,h,h⟩:=T.c6;have b:=T.free))))
  all_goals(go_wp2_with fail;go_meet)
  all_goals first
   |with_reducible exact⟨_,rfl,rfl,pg U.o S⟩
   |exact⟨_,rfl,rfl,pj U.o S (by first|exact Ia _|exact R.size) T⟩
 obtain⟨P,rfl,rfl,a2,V,h,h,G,m⟩:=hcut;rename fA=>J;replace H:=dB (H.o.z m);clear s t v A B C;obtain⟨⟨s,t,v,A,B,C⟩,⟨n,W,r2,r3,r4,r5⟩,⟨s0,s1,s2⟩,yd,yr,yl,o⟩:=H.o.cells;obtain⟨x0,m,x2,m,m,m⟩:=h.c6;go_wp2;exact aMa (K:=⟨O,c1,I,L,N,M⟩) rfl rfl rfl rfl rfl rfl H.o G
section
open Go.Maps
def kg{P:Program}{w:fA}{b:Array Oper}{o:Oper}{a:Act}{K:Act->fA->Prop}{Q:Exit->Act->fA->Prop}{E:Prop}{f:FuncId}{args:Array jA}(c:o.guard=aA)(i:(execOp a.eval o).run P w=.ok (.enter f args) w)
(h:iA P f args w (λe d=>∃v,e=vA v/\K (a.put o.dst v) d)):if Region.wanted o (yielded b a.tmps)=true then Oper.wp P o a w K Q else E:=by
 have j:Region.wanted o (yielded b a.tmps)=true:=by simp[Region.wanted,c]
 rw[Ma j];unfold Oper.wp;rw[i];refine h.mono ?_;rintro e d ⟨v,rfl,g⟩;exact g
def jq(m:Nat)(L:List (gB×Nat))(w:fA)(h:w.ownsMap prog 9 tE m (zA L) (jE (L.map λp=>(p.1.N,kF p.2))))(j:tC (λp:gB×Nat=>p.1.N) L)(k:zA L<=1000000000):
 iA prog 69 #[.func (.func 130) #[] #[.pointer (vB w.1.size)]] (w.alloc (xA #[.map (cA m)] 152)) λe f=>∃v,e=vA v/\f.ownsRow w.1.size 9 1 v (zA L) (L.map λp=>pA p.1.N)/\xB w f:=by
 have c:Maps.size (jE (L.map λp=>(p.1.N,kF p.2)))=zA L:=by rw[vM]
 refine iA.mono (callsIn_wide.1 (slices_Sorted_keys_69_70 m _ _ tE w h (by rw[c];unfold maxLen;omega) (by rw[c];omega))) ?_;rintro e l ⟨v,h,rfl,d,a,_,g⟩;have i:(strKeys (jE (L.map λp=>(p.1.N,kF p.2))))=L.map λp=>p.1.N.data.toList:=by
  rw[vU,Vd];rfl
 rw[i]at d;have b:zA h=zA L:=by rw[d.length_eq,Xa]
 rw[JE (key:=λp:gB×Nat=>p.1.N) j d,OG (λp:gB×Nat=>p.1.N),b]at a;exact⟨v,rfl,FU a (by simp),aC bC g⟩
def zo{W:fA}{B:Nat}{e:TypeId}{v:jA}{L:List (gB×Nat)}(h:W.ownsRow B e 1 v (zA L) (L.map λp=>pA p.1.N)):
 ∃j o,v=qA j (zA L) o/\(L=[]\/∃g,j=vB g/\B<=g/\g<W.1.size/\∀i(h:i<zA L),W.cell? (eB g i)=cA (pA L[i].1.N)):=by
 obtain⟨rfl,f⟩|⟨g,b,a,rfl,k,d,_,_,n,c⟩:=h.2;refine ⟨aA,0,by rw[f],Ca (Nb.1 f)⟩;refine ⟨_,b,rfl,La ⟨g,rfl,k,bB d,λi m=>?_⟩⟩;have l:=jB.cell (show jB W g a e from d) i;rw[l,<-Yd];have:(a.toList.take (zA L*1))[i]?=(L.map λp=>jA.string p.1.N)[i]?:=by rw[c]
 rw[Ye,Ma (by omega)]at this;rw[this,Se,Va m];rfl
def aDu{w:fA}{B:Nat->Prop}{T:Nat->Option Nat}{l m:Nat}{c:lC}{d:Int}{L:List (gB×Nat)}{M:Nat}(h:iL w B T l m c d L M)(i:Nat)(j:i<zA L)(k:L[i].1.N.size<=maxLen):
 ∃x S,∀W,xB w W->W.cell? (eB l 7)=cA (.map (cA m))/\(Instr.lookup 152 (.map (cA m)) (pA L[i].1.N) dA).run prog W=.ok (.pointer (vB x)) W/\tD W S x L[i].1 M:=by
 have f:=Gb j;refine⟨L[i].2,_,λW b=>⟨(h.blk.z b).cell 7,?_,(h.idx _ f).z b⟩⟩;obtain⟨v,n,a,g⟩:=fA.ownsMap.lookup ((fB.of b).map (S:=λ_=>False) h.ten (λe=>e)) vL underlying152 (show(zeroValue 159).run prog W=.ok (tA aA) W by kernel_rfl) (zd:=.nil) (zp:=[]) rfl (eN k);rw[a];rw[lS (key:=λq:gB×Nat=>q.1.N) (λq=>kF q.2),kM (key:=λq:gB×Nat=>q.1.N) h.rise f]at g;rw[aR g]
def VG(l m:Nat)(c:lC)(s:Int)(B:Nat->Prop)(ts:List gB)(M:Nat)(w:fA)(h:lE w B l m c s ts M)(z:aMn ts)(hlen:zA ts<=2000000):
 iA prog 20 #[tA (cA ⟨l,0,aA⟩)] w λe w'=>∃a C,e=vA (uA #[mA oA s,qA a (zA ts) C])/\dD w' w.1.size a ts/\xB w w':=by
 obtain⟨T0,L,h,rfl⟩:=h;rw[Xa]at hlen |-
 have c6:yC w l 6 (mA oA s):=h.blk.cell 6;have hll:=bB h.blk;have HL7:cB (∀W,xB w W->yC W l 7 (.map (cA m))):=λW hW=>(h.blk.z hW).cell 7;have HLK:cB _:=λi K=>aDu h i K (z _ (Tc (Gb K))).1;have e0:cB (∀i(K:i<zA L) x S W,tD W S x L[i].1 M->iA prog 71 #[tA (cA ⟨x,0,aA⟩),pA L[i].1.N] W λe w'=>GU W L[i].1.N L[i].1 e w'):=λi K x S W hix=>by
  obtain⟨_,b,d,p,r⟩:=z _ (Tc (f:=(·.1)) (Gb K));refine(km x L[i].1.N L[i].1 S M W hix b d (by omega) (by omega)).mono ?_;rintro e w' ⟨v1,v2,M',rfl,r1,hM1,hM2,hM3,r2,hb⟩;obtain⟨a1,c1,rfl⟩:=zP r1;obtain⟨a2,c2,rfl⟩:=zP r2;exact⟨M',a1,c1,a2,c2,rfl,hM2,bE r1,λg o e=>hM1 g (by rw[e];rfl),bE r2,hM3,hb⟩
 have c0:cB _:=λW hW=>jq m L W ((fB.of hW).map (S:=λ_=>False) h.ten (λe=>e)) h.rise (by omega);have Y:cB _:=λW=>callsIn_wide.1 (maps_Keys_70 (cA m) W);unfold GU at e0;clear h z;have B2:cB (xB w ((w.alloc (xA #[mA oA 0,qA aA 0 0] 40)).alloc (xA #[mA oA s,qA aA 0 0] 40))):=aC bC bC;have c7:=HL7.o _ B2.o;go_enter func20,ntmps20;go_wp2_with fail;apply jC (Y.o _);rintro w1 rfl;have X2:cB _:=dB (by have:=jB.new (w.alloc (xA #[mA oA 0,qA aA 0 0] 40)) #[mA oA s,qA aA 0 0] 40;simpa using this);have Y2:cB (jB ((w.alloc (xA #[mA oA 0,qA aA 0 0] 40)).alloc (xA #[mA oA s,qA aA 0 0] 40)) w.1.size #[mA oA 0,qA aA 0 0] 40):=(jB.new _ _ _).alloc _;clear c7 c6;generalize (w.alloc (xA #[mA oA 0,qA aA 0 0] 40)).alloc (xA #[mA oA s,qA aA 0 0] 40)=w2 at *;go_wp2_with fail;refine(c0.o _ B2.o).mono ?_;rintro e E ⟨kv,rfl,G,D⟩;obtain⟨ka,kc,rfl,hks⟩:=zo G;have HKS:=dB hks;have B3:cB _:=aC B2.o D;have X3:cB (jB E (w.1.size+1) #[mA oA s,qA aA 0 0] 40):=X2.o.z D;have Y3:cB (jB E w.1.size #[mA oA 0,qA aA 0 0] 40):=Y2.o.z D;have HX2:cB _:=bB X2.o;clear G hks D X2 Y2 B2 c0 Y;go_wp2;go_loopw [5,18] (λ_ i wr=>∃(k:Nat)(v:jA),k<=zA L/\i=mA oA k/\cB (jB wr (w.1.size+1) #[mA oA s,v] 40)/\cB (iS wr E.1.size 131 v k ((L.take k).map (·.1)))/\cB (fB (·=w.1.size+1) E wr)) (λ_ i _=>zA L-(intOf i).toNat)
 case atStart=>exact⟨0,qA aA 0 0,Oa _,rfl,X3.o,iS.nil _ _ _,fB.refl _ _⟩
 case round=>
  obtain⟨k,v,hk,rfl,R,b0,y⟩:=hrel;have V:cB _:=(((fB.of (S:=λi=>w.1.size<=i) B3.o).trans' (y.o.mono λi _ e=>by omega)).below (Ia _) λi K h=>by omega)
  by_cases u:k<zA L
  .have hks2:∃g,ka=cA ⟨g,0,aA⟩/\w2.1.size<=g/\g<E.1.size/\∀i(h:i<zA L),yC E g i (pA L[i].1.N):=by
    obtain h0|h0:=HKS.o;rw[h0]at u;exact absurd u (by simp);exact h0
   obtain⟨g,rfl,hg1,hg2,hgc⟩:=hks2;have hx2:=HX2.o;have hkey:=(fA.cell?_of_block (y.o.block g hg2 (by omega))).trans (hgc k u);obtain⟨x,S,Z⟩:=HLK.o k u;have HQ:=dB Z;have HTK:=dB (e0.o k u x S);have HLT:cB ((L.take (k+1)).map (·.1)=(L.take k).map (·.1)++[L[k].1]):=by show _=_;rw[Pa u,Ld];rfl
   have HLL:cB (zA ((L.take k).map (·.1))=k):=by show _=_;rw[Xa,Hb];omega
   have hsz3:=y.o.size;have hB3s:=B3.o.size;clear hgc Z;generalize (L.take k).map (·.1)=TS at *;generalize L[k].1=t at *;obtain⟨T,ys,I,hV2,hV3,hV4⟩:=b0.o;have HV1:=dB I;have g0:=dB hV2;have HV3:=dB hV3;have HV4:=dB hV4;have Q:=λq hq=>I.lt q hq;have agv:v.ownBlock≠cA (w.1.size+1):=λe=>by have:=(Q _ e).1;omega
   have X:cB (∀W,xB wr W->yC W (w.1.size+1) 1 v):=λW hW=>(R.o.z hW).cell 1;have v5:yC wr (w.1.size+1) 1 v:=R.o.cell 1;obtain⟨q1,q2,q3⟩:=HQ.o wr.drew V.o.drew;have Q3:=dB q3;clear I hV2 hV3 hV4 q3;go_wp2_with fail;go_region_law
    (first
     |((fail_if_success (have q:=J));refine kg (f:=71) (args:=#[tA (cA ⟨x,0,aA⟩),pA t.N]) rfl (by go_simp) ?_;refine(HTK.o _ Q3.o).mono ?_;rintro e U ⟨M4,a1,d1,a2,d2,rfl,hM,o1,o1M,o2,oM,J⟩;have A:xB wr U:=aC gD.drew J;have x4:=X.o _ A;have x5:(U.alloc (xA #[pA t.N,mA oA t.L,qA a1 (zA t.M) d1,qA a2 (zA t.Z) d2] 131)).cell? ⟨w.1.size+1,1,aA⟩=cA v:=X.o _ (aC A bC);have O:=dB (Vc hM (Vc o1 (Vc o1M (Vc o2 oM))));clear hM o1 o1M o2 oM;refine⟨_,rfl,?_⟩)
     |(have q:=J;clear q;refine JF (by rfl) _ _ (by rfl) underlying38 wQ rfl (by omega) (by omega) (by rfl) (by exact hC HV1.o A) (by rfl) (by rfl) (cs:=#[pA t.N,mA oA t.L,qA a1 (zA t.M) d1,qA a2 (zA t.Z) d2]) rfl (by simp[jA.oneCell']) (by omega) (by have:=A.size;omega) ?_;intro gg C w5 O5 T5 A5;have H:=dB (T5.o.blk (R.o.z A) (λe=>by have:=e.1;omega));have s5:=H.o.cell 1;have j:=H.o.free 1))
   all_goals(
    have hsz4:=A.size;have hgg:(v.ownBlock=cA gg/\gg<wr.1.size)\/U.1.size<=gg:=A5.o.imp_left λh=>⟨h,(Q _ h).2⟩
    obtain⟨h1,h3,h4⟩:=tZ (R.o.z A) T5.o O5.o (by omega) 1;have N:=λg(hg:g<U.1.size)(F:E.1.size<=g)(P:v.ownBlock≠cA g)=>h4.block g hg (λe=>by obtain e|e:=e;omega;exact P e.2)
    have HX6:=dB h1;have HT6:=dB (y.o.trans ((fB.of A).trans' (h4.mono λi _ e=>e.imp_right And.left)));have HR6:cB (iS (w5.setCell ⟨w.1.size+1,1,aA⟩ (qA (cA ⟨gg,0,aA⟩) (k+1) C)) E.1.size 131 (qA (cA ⟨gg,0,aA⟩) (k+1) C) (k+1) ((L.take (k+1)).map (·.1))):=by
     refine dB ?_;rw[HLT.o];have hyk:zA ys=k:=by have h1:=HLL.o;rw[<-g0.o,Xa]at h1;exact h1
     exact iS.snoc (wr:=wr) (w4:=U) (M:=M4) (v:=v) (T:=T) (ys:=ys) h3 g0.o hyk HV3.o HV4.o (by omega) O.o.1
      (λg hg F P=>(N g (by omega) F P).trans (A.block g hg))
      (λg hg hg4=>N g hg4 (by omega) (λe=>by have:=(Q _ e).2;omega))
      O.o.2.1 O.o.2.2.1 O.o.2.2.2.1 hgg hsz4 O.o.2.2.2.2)
   all_goals clear h1 h3 h4 O5 T5 A5 s5 j H N
   all_goals go_wp2
   all_goals exact⟨⟨k+1,_,by omega,by go_num,dB (by simpa using HX6.o),HR6.o,HT6.o⟩,by simp[intOf];omega⟩
  .have ek:k=zA L:=by omega
   have a0:cB (iS wr E.1.size 131 v (zA L) (L.map (·.1))):=by
    have:=b0.o;rw[ek,Rb]at this;exact this
   obtain⟨ra,rc,rfl⟩:=a0.o.row;have YW:cB (jB wr w.1.size #[mA oA 0,qA aA 0 0] 40):=y.o.blk Y3.o (by omega);have x0:yC wr (w.1.size+1) 0 (mA oA s):=R.o.cell 0;have x1:yC wr (w.1.size+1) 1 (qA ra (zA L) rc):=R.o.cell 1;have y0:yC wr w.1.size 0 (mA oA 0):=YW.o.cell 0;have y1:yC wr w.1.size 1 (qA aA 0 0):=YW.o.cell 1;have n:=YW.o.free 0;have b:=YW.o.free 1;have h31:=bB X3.o;go_wp2;have d0:fB (·=w.1.size) wr ((wr.setCell ⟨w.1.size,0,aA⟩ (mA oA s)).setCell ⟨w.1.size,1,aA⟩ (qA ra (zA L) rc)):=((fB.refl (·=w.1.size) wr).setCell (Ca rfl) 0 _).setCell (Ca rfl) 1 _;refine bodyPost_ret (v:=uA #[mA oA s,qA ra (zA L) rc]) (by simp[results,results20,go_sem,y0,y1]) rfl ⟨ra,rc,rfl,((a0.o.turn d0 (λg e=>by omega)).own (by rw[Xa])).mono (by omega),((fB.of (S:=λi=>w.1.size<=i) V.o).trans' (d0.mono λi _ e=>by omega)).below (Ia _) λi K h=>by omega⟩
end
def CW{k:fA}{B g n o:Nat}{e:TypeId}{f:List TV}(h:k.ownsRow B e 4 (qA (vB g) n o) n (iF f))(x:zA f=n):
 ∀i(v:i<zA f),k.cell? (eB g (i*4))=cA (pA f[i].t.N)/\k.cell? (eB g (i*4+1))=cA (aB f[i].t.L)/\k.cell? (eB g (i*4+2))=cA (.slice f[i].a1 (zA f[i].t.M) f[i].c1)/\k.cell? (eB g (i*4+3))=cA (.slice f[i].a2 (zA f[i].t.Z) f[i].c2)/\k.frozen? (eB g (i*4+2))=dA/\k.frozen? (eB g (i*4+3))=dA:=by
 intro i v;obtain⟨m,_⟩|⟨z,s,p,m,A,u,_,_,y,r⟩:=h.2
 .cases m
 simp only[jA.slice.injEq,Qa,Addr.mk.injEq,Cc]at m;rw[<-m.1]at u;have q:jB k g p e:=u;obtain⟨a,b,c,d⟩:=US f i v;have l:∀j,j<zA f*4->k.cell? (eB g j)=(iF f)[j]?:=λj w=>by
  rw[q.cell j,<-Yd,<-r,Jb (by rw[<-x];exact w)]
 refine⟨?_,?_,?_,?_,q.free _,q.free _⟩;rw[l _ (by omega)];exact a;rw[l _ (by omega)];exact b;rw[l _ (by omega)];exact c;rw[l _ (by omega)];exact d
def VW{w:fA}{B n b:Nat}{e:TypeId}{v:jA}{j:List jA}(h:w.ownsRow B e b v n j):∃a c,v=qA a n c:=by
 obtain⟨d,i⟩|⟨g,f,_,d,_⟩:=h.2;exact ⟨aA,0,by rw[d,i]⟩;exact ⟨_,_,d⟩
def VY{w:fA}{B d:Nat}{e:TypeId}{a:Nat}{v:jA}{n:Nat}{f:List jA}(h:w.ownsRow B e a v n f)(i:d<=B):w.ownsRow d e a v n f:=
 ⟨h.1,h.2.imp id (fun⟨g,b,c,e,j,r⟩=>⟨g,b,c,e,Ua i j,r⟩)⟩
def yj(l:List TV)(k:Nat)(d:k<zA l)(Y:TV)(a:Y.t=l[k].t):(l.set k Y).map (·.t)=l.map (·.t):=by
 refine List.ext_getElem (by simp) (λi b c=>?_);simp only[List.getElem_map,List.getElem_set];split
 .rename_i e;subst e;exact a
 rfl
def AQ(o:Int)(a:nC)(p:Nat)(n:List gB)(w:fA)(I:aD w a n)(h:zA n<=2000000)(Q:∀t∈n,zA t.M<=2000000/\zA t.Z<=2000000):
 iA prog 72 #[uA #[aB o,qA a (zA n) p]] w λe G=>∃a' m,e=vA (uA #[aB o,qA a' (zA n) m])/\dD G w.1.size a' n/\xB w G:=by
 have m:cB _:=λW N=>md a p n w W I N h;have HFT:=dB Q;clear I Q;have B0:cB (xB w ((w.alloc (xA #[aB o,qA a (zA n) p] 40)).alloc (xA #[aB 0,qA aA 0 0] 40))):=aC bC bC;have P0:cB (jB ((w.alloc (xA #[aB o,qA a (zA n) p] 40)).alloc (xA #[aB 0,qA aA 0 0] 40)) w.1.size #[aB o,qA a (zA n) p] 40):=(jB.new _ _ _).alloc _;have Q0:cB _:=dB (by have:=jB.new (w.alloc (xA #[aB o,qA a (zA n) p] 40)) #[aB 0,qA aA 0 0] 40;simpa using this);have h:w.1.size+1<((w.alloc (xA #[aB o,qA a (zA n) p] 40)).alloc (xA #[aB 0,qA aA 0 0] 40)).1.size:=by simp
 go_enter func72,ntmps72;go_wp2_with fail;refine(m.o _ B0.o).mono ?_;rintro e x ⟨v,E,rfl,h,J,U,A⟩;have O:cB (jB x w.1.size #[aB o,qA a (zA n) p] 40):=P0.o.z A;have Q1:cB (jB x (w.1.size+1) #[aB 0,qA aA 0 0] 40):=Q0.o.z A;have I:cB _:=aC B0.o A;have Y:=dB h;have a0:=dB J;have Z:=dB U;have y0:yC x w.1.size 1 (qA a (zA n) p):=O.o.cell 1;have fy:=O.o.free 1;have hs1:=A.size;clear h J U A P0 Q0 B0 m;generalize ((w.alloc (xA #[aB o,qA a (zA n) p] 40)).alloc (xA #[aB 0,qA aA 0 0] 40))=V at *;have m:cB (fB (·=w.1.size) x (x.setCell (eB w.1.size 1) v)):=(fB.refl (·=w.1.size) x).setCell (Ca rfl) 1 _;have P2:cB _:=dB (by have:=O.o.set 1 v;simpa using this);have Q2:cB (jB (x.setCell (eB w.1.size 1) v) (w.1.size+1) #[aB 0,qA aA 0 0] 40):=m.o.blk Q1.o (by omega);have X:cB _:=I.o.trans (m.o.below (by have:=I.o.size;omega) λi hi e=>by omega);have O2:cB ((x.setCell (eB w.1.size 1) v).ownsRow V.1.size 131 4 v (zA n) (iF E)):=m.o.row Y.o (λq h e=>by have:=(Y.o.lt q h).1;omega);obtain⟨hv,h⟩|⟨g,s,J,hv,J,_⟩:=Y.o.2
 .subst hv;have J:=Nb.1 h;have x1:(x.setCell (eB w.1.size 1) (qA aA 0 0)).cell? (eB w.1.size 1)=cA (qA aA 0 0):=P2.o.cell 1;subst J;go_wp2;clear y0 fy x1 m O Q1 I Y O2;generalize (x.setCell (eB w.1.size 1) (qA aA 0 0))=H at *;go_loopw [12] (λi wr=>i=aB 0/\H=wr) (λ_ _=>0)
  case atStart=>exact⟨rfl,rfl⟩
  case round=>
   obtain⟨rfl,h⟩:=hrel;subst h;have z:=Q2;have P:=P2;have BW:=X;have z0:yC H (w.1.size+1) 0 (aB 0):=z.o.cell 0;have z1:yC H (w.1.size+1) 1 (qA aA 0 0):=z.o.cell 1;have fz0:=z.o.free 0;have fz1:=z.o.free 1;have s0:yC H w.1.size 0 (aB o):=P.o.cell 0;have s1:yC H w.1.size 1 (qA aA 0 0):=P.o.cell 1;go_wp2;have J:fB (·=w.1.size+1) H ((H.setCell (eB (w.1.size+1) 0) (aB o)).setCell (eB (w.1.size+1) 1) (qA aA 0 0)):=((fB.refl (·=w.1.size+1) H).setCell (Ca rfl) 0 _).setCell (Ca rfl) 1 _;refine bodyPost_ret (v:=uA #[aB o,qA aA 0 0]) (by simp[results,results72,go_sem,z0,z1]) rfl ?_;have ho:dD ((H.setCell (eB (w.1.size+1) 0) (aB o)).setCell (eB (w.1.size+1) 1) (qA aA 0 0)) w.1.size aA []:=Ca rfl;have D:=((fB.of (S:=λi=>w.1.size<=i) BW.o).trans' (J.mono λi _ e=>by omega)).below (Ia _) λi hi h=>by omega
   first
    |exact⟨aA,⟨0,rfl⟩,ho,D⟩
    |exact⟨aA,0,rfl,ho,D⟩
 subst hv;have x1:(x.setCell (eB w.1.size 1) (qA (vB g) (zA n) s)).cell? (eB w.1.size 1)=cA (qA (vB g) (zA n) s):=P2.o.cell 1;have HC0:cB (uh w (x.setCell (eB w.1.size 1) (qA (vB g) (zA n) s)) V.1.size g (zA n) s (λ_=>0) E 0 dA):=by
  have hyl:zA E=zA n:=by rw[<-a0.o,Xa]
  refine dB { row:=O2.o,len:=hyl,tg:=rfl,own:=λi _ h=>absurd h (by omega),half:=λh=>(by cases h),old:=λi hi _=>?_};obtain⟨p1,p2⟩:=Z.o E[i] (Gb hi);exact⟨p2,λ_=>p1⟩
 go_wp2;clear y0 fy x1 m O Q1 I Y O2 Z;have I:V.1.size<=(x.setCell (eB w.1.size 1) (qA (vB g) (zA n) s)).1.size:=by simp;exact hs1
 generalize (x.setCell (eB w.1.size 1) (qA (vB g) (zA n) s))=H at *;go_loopw [12] (λi wr=>∃(k:Nat)(T:Nat->Nat)(m:List TV),k<=zA n/\i=aB k/\cB (uh w wr V.1.size g (zA n) s T m k dA)/\cB (m.map (·.t)=n)/\cB (jB wr w.1.size #[aB o,qA (vB g) (zA n) s] 40)/\cB (jB wr (w.1.size+1) #[aB 0,qA aA 0 0] 40)/\cB (xB w wr)/\V.1.size<=wr.1.size) (λi _=>zA n-(intOf i).toNat)
 case atStart=>exact⟨0,_,E,Oa _,rfl,HC0.o,a0.o,P2.o,Q2.o,X.o,I⟩
 case round=>
  obtain⟨k,T,m,I,rfl,O,HY,P,z,BW,I⟩:=hrel;clear HC0 a0 P2 Q2 X;have hyl:zA m=zA n:=by rw[<-HY.o,Xa]
  by_cases I:k<zA n
  .have r:k<zA m:=by omega
   obtain⟨c0,c1,c2,c3,j,l⟩:=CW O.o.row O.o.len k r;have s1:yC wr w.1.size 1 (qA (vB g) (zA n) s):=P.o.cell 1;go_wp2;have y:=zF wr (xA #[pA m[k].t.N,aB m[k].t.L,.slice m[k].a1 (zA m[k].t.M) m[k].c1,.slice m[k].a2 (zA m[k].t.Z) m[k].c2] 131);have BX:cB (jB (wr.alloc (xA #[pA m[k].t.N,aB m[k].t.L,.slice m[k].a1 (zA m[k].t.M) m[k].c1,.slice m[k].a2 (zA m[k].t.Z) m[k].c2] 131)) wr.1.size #[pA m[k].t.N,aB m[k].t.L,.slice m[k].a1 (zA m[k].t.M) m[k].c1,.slice m[k].a2 (zA m[k].t.Z) m[k].c2] 131):=jB.new _ _ _;have CB:cB _:=O.o.keep (S:=λ_=>False) (fB.of y) (λ_ e=>e.elim);have L:=dB (P.o.z y);have RQb:=dB (z.o.z y);have Z:cB _:=aC BW.o y;have hsb:V.1.size<=(wr.alloc (xA #[pA m[k].t.N,aB m[k].t.L,.slice m[k].a1 (zA m[k].t.M) m[k].c1,.slice m[k].a2 (zA m[k].t.Z) m[k].c2] 131)).1.size:=by have:=y.size;omega
   have I:=(O.o.row.lt g rfl).2;have I:wr.1.size<(wr.alloc (xA #[pA m[k].t.N,aB m[k].t.L,.slice m[k].a1 (zA m[k].t.M) m[k].c1,.slice m[k].a2 (zA m[k].t.Z) m[k].c2] 131)).1.size:=by simp
   obtain⟨I,M⟩:=O.o.old k r (Ia _);have M:=M (Ca rfl);have R:m[k].t∈n:=by rw[<-HY.o];exact Md.2 ⟨m[k],Gb r,rfl⟩
   obtain⟨Y,hl2⟩:=HFT.o _ R;have HM:cB (∀u W,xB w u->xB u W->iA prog 134 #[.slice m[k].a1 (zA m[k].t.M) m[k].c1] W λe G=>∃v,e=vA v/\G.ownsRow u.1.size 184 2 v (zA m[k].t.M) (flatK m[k].t.M)/\xB u G):=λu W h0 N=>(mc m[k].a1 m[k].c1 m[k].t.M W (M.z (aC h0 N)) Y).mono λe G ⟨v,h1,h2,h3⟩=>⟨v,h1,VY h2 N.size,aC N h3⟩
   have HS:cB (∀u W,xB w u->xB u W->iA prog 135 #[.slice m[k].a2 (zA m[k].t.Z) m[k].c2] W λe G=>∃v,e=vA v/\G.ownsRow u.1.size 134 2 v (zA m[k].t.Z) (flatK m[k].t.Z)/\xB u G):=λu W h0 N=>(mf m[k].a2 m[k].c2 m[k].t.Z W (I.z (aC h0 N)) hl2).mono λe G ⟨v,h1,h2,h3⟩=>⟨v,h1,VY h2 N.size,aC N h3⟩
   clear c0 c1 c2 c3 j l s1 M I R Y hl2 O P z BW;generalize (wr.alloc (xA #[pA m[k].t.N,aB m[k].t.L,.slice m[k].a1 (zA m[k].t.M) m[k].c1,.slice m[k].a2 (zA m[k].t.Z) m[k].c2] 131))=wb at *;have s1:yC wb w.1.size 1 (qA (vB g) (zA n) s):=L.o.cell 1;have b2:yC wb wr.1.size 2 (.slice m[k].a1 (zA m[k].t.M) m[k].c1):=BX.o.cell 2;clear y;go_region_law
    (refine iH (f:=134) (args:=#[.slice m[k].a1 (zA m[k].t.M) m[k].c1]) rfl (by go_simp) ?_;refine(HM.o wb _ Z.o gD.drew).mono ?_;rintro e G ⟨v5,rfl,Y,B⟩;obtain⟨I,W,rfl⟩:=VW Y;obtain⟨_,_,c25,_,b,_⟩:=CW (hC CB.o.row B) CB.o.len k r;have s15:=(L.o.z B).cell 1;have O5:=dB Y;have hsz5:=B.size;have B5:=dB B;clear Y B;refine⟨_,rfl,?_⟩)
   all_goals(
    have F:fB (·=g) G (G.setCell (eB g (k*4+2)) (.slice I (zA m[k].t.M) W)):=(fB.refl (·=g) G).setCell (Ca rfl) _ _;have C6:=dB (CB.o.limits r B5.o hsb O5.o);have K:=dB (F.blk (L.o.z B5.o) (show ¬w.1.size=g by omega));have RQ6:=dB (F.blk (RQb.o.z B5.o) (show ¬w.1.size+1=g by omega));have BX6:=dB (F.blk (BX.o.z B5.o) (show ¬wr.1.size=g by omega));have Y:cB _:=(aC Z.o B5.o).trans (F.below (by omega) λi hi e=>by omega);have hs6:V.1.size<=(G.setCell (eB g (k*4+2)) (.slice I (zA m[k].t.M) W)).1.size:=by simp;omega
    have hw6:wr.1.size<(G.setCell (eB g (k*4+2)) (.slice I (zA m[k].t.M) W)).1.size:=by simp;omega
    clear c25 b s15 F s1 b2 CB L RQb BX Z;generalize (G.setCell (eB g (k*4+2)) (.slice I (zA m[k].t.M) W))=w6 at *;generalize (λg=>if g<wb.1.size then T g else 2*k+1)=G at *)
   all_goals(
    have s1:yC w6 w.1.size 1 (qA (vB g) (zA n) s):=K.o.cell 1;have b3:yC w6 wr.1.size 3 (.slice m[k].a2 (zA m[k].t.Z) m[k].c2):=BX6.o.cell 3)
   all_goals go_wp2_with fail
   all_goals go_region_law
    (refine iH (f:=135) (args:=#[.slice m[k].a2 (zA m[k].t.Z) m[k].c2]) rfl (by go_simp) ?_;refine(HS.o w6 _ Y.o gD.drew).mono ?_;rintro e G ⟨Z,rfl,d0,C⟩;obtain⟨Z,d7,rfl⟩:=VW d0;obtain⟨_,_,_,c37,_,d⟩:=CW (hC C6.o.row C) C6.o.len k (by simpa using r);have s17:=(K.o.z C).cell 1;have O7:=dB d0;have hsz7:=C.size;have B7:=dB C;clear d0 C;refine⟨_,rfl,?_⟩)
   all_goals(
    have F:fB (·=g) G (G.setCell (eB g (k*4+3)) (.slice Z (zA m[k].t.Z) d7)):=(fB.refl (·=g) G).setCell (Ca rfl) _ _;have hk6:k<zA (m.set k ⟨m[k].t,I,W,m[k].a2,m[k].c2⟩):=by simpa using r
    have C8:=C6.o.series (a:=Z) (c:=d7) hk6 B7.o hs6 (by simp only[Oe];exact O7.o);simp only[Oe,List.set_set]at C8;have C8:=dB C8;have RP8:=dB (F.blk (K.o.z B7.o) (show ¬w.1.size=g by omega));have RQ8:=dB (F.blk (RQ6.o.z B7.o) (show ¬w.1.size+1=g by omega));have BW8:cB _:=(aC Y.o B7.o).trans (F.below (by omega) λi hi e=>by omega);have hs8:V.1.size<=(G.setCell (eB g (k*4+3)) (.slice Z (zA m[k].t.Z) d7)).1.size:=by simp;omega
    have HY8:cB _:=(yj m k r ⟨m[k].t,I,W,Z,d7⟩ rfl).trans HY.o;clear c37 d s17 F s1 b3 C6 K RQ6 BX6 Y;generalize (G.setCell (eB g (k*4+3)) (.slice Z (zA m[k].t.Z) d7))=m at *
    go_wp2
    exact⟨⟨k+1,_,_,by omega,by go_num,C8.o,HY8.o,RP8.o,RQ8.o,BW8.o,hs8⟩,by simp[intOf];omega⟩)
  have m:k=zA n:=by omega
  subst m;have m:=O;clear O;have z0:yC wr (w.1.size+1) 0 (aB 0):=z.o.cell 0;have z1:yC wr (w.1.size+1) 1 (qA aA 0 0):=z.o.cell 1;have fz0:=z.o.free 0;have fz1:=z.o.free 1;have s0:yC wr w.1.size 0 (aB o):=P.o.cell 0;have s1:yC wr w.1.size 1 (qA (vB g) (zA n) s):=P.o.cell 1;go_wp2;have J:fB (·=w.1.size+1) wr ((wr.setCell (eB (w.1.size+1) 0) (aB o)).setCell (eB (w.1.size+1) 1) (qA (vB g) (zA n) s)):=((fB.refl (·=w.1.size+1) wr).setCell (Ca rfl) 0 _).setCell (Ca rfl) 1 _;refine bodyPost_ret (v:=uA #[aB o,qA (vB g) (zA n) s]) (by simp[results,results72,go_sem,z0,z1]) rfl ?_;have ho:dD ((wr.setCell (eB (w.1.size+1) 0) (aB o)).setCell (eB (w.1.size+1) 1) (qA (vB g) (zA n) s)) w.1.size (vB g) n:=(dD.mono (dD.turned (m.o.done HY.o) J (λq h1 h2 e=>by omega)) (by omega))
  have D:=((fB.of (S:=λi=>w.1.size<=i) BW.o).trans' (J.mono λi _ e=>by omega)).below (Ia _) λi hi h=>by omega
  first
   |exact⟨(cA ⟨g,0,aA⟩),⟨s,rfl⟩,ho,D⟩
   |exact⟨(cA ⟨g,0,aA⟩),s,rfl,ho,D⟩
