import Derived.Test.YtflbidbilgndeaaGreatDoorJ25
import Derived.Test.YtflbidbilgndeaaGreatDoorJ26
set_option maxRecDepth 100000
set_option maxHeartbeats 40000000
set_option linter.defProp false
open Bool renaming false->cA
open Option renaming none->aA,some->bA
open List renaming length->yA
namespace Go.Proofs.YtflbidbilgndeaaGreatDoor
open Go renaming World->eA,Calls->gA,Value->iA
open Value renaming agg->tA,string->oA,bool->qA,slice->pA,pointer->sA,int->lA
open Ending renaming returned->uA
open Obj renaming cells->vA
open IntKind renaming i64->mA
open Go.RowKit Tryz
def ZH{x:jB}:(x.toList==[])=decide (x.size=0):=by
 rw[ByteArray.toList_eq];cases h:x.data.toList with
 |nil=>
  have b:x.size=0:=by have:yA x.data.toList=0:=by rw[h];rfl
                      simpa using this
  simp[b]
 |cons a l=>
  have b:x.size≠0:=by have:yA x.data.toList=yA l+1:=by rw[h];rfl
                      simp at this;omega
  simp[b]
def mv(d c:Int)(a b:jB)(w:eA)(s:a.size<=1000000000)(t:b.size<=1000000000):
 dF 174 #[tA #[zA d,oA a,oA b,zA c]] w (qA (el ⟨d,a,b,c⟩)):=by
 by_cases o:a.size > 255
 .have E:cB (el ⟨d,a,b,c⟩=cA):=bB (DC λh=>by have:=h.1;simp only at this;omega);have j:(a.size:Int) > 255:=by omega
  go_enter func174,ntmps174;go_wp2;go_ret;exact⟨oB E.o.symm,zB⟩
 have j:¬(a.size:Int) > 255:=by omega
 by_cases p:b.size > 65535
 .have E:cB (el ⟨d,a,b,c⟩=cA):=bB (DC λh=>by have:=h.2.1;simp only at this;omega);have k:(b.size:Int) > 65535:=by omega
  go_enter func174,ntmps174;go_wp2;go_ret;exact⟨oB E.o.symm,zB⟩
 have k:¬(b.size:Int) > 65535:=by omega
 by_cases l:d=1
 .subst l;have E:cB (el ⟨1,a,b,c⟩=(c==0)):=bB (by
   by_cases h:c=0
   .rw[XY (show fP ⟨1,a,b,c⟩ from⟨by simp only;omega,by simp only;omega,Ca ⟨rfl,h⟩⟩)];simp[h]
   rw[DC (show ¬fP ⟨1,a,b,c⟩ from λf=>f.2.2.elim (λg=>h g.2) (λg=>g.elim (λg=>absurd g.1 (show ¬(1:Int)=2 by decide)) (λg=>absurd g (show ¬(1:Int)=3 by decide))))];simp[h])
  go_enter func174,ntmps174;go_wp2;go_ret;exact⟨oB E.o.symm,zB⟩
 by_cases m:d=2
 .subst m;by_cases i:a.size=0
  .have E:cB (el ⟨2,a,b,c⟩=(b.toList==[])):=bB (by
    rw[ZH];by_cases h:b.size=0
    .rw[XY (show fP ⟨2,a,b,c⟩ from⟨by simp only;omega,by simp only;omega,La (Ca ⟨rfl,i,h⟩)⟩),Ac h]
    rw[DC (show ¬fP ⟨2,a,b,c⟩ from λf=>f.2.2.elim (λg=>absurd g.1 (show ¬(2:Int)=1 by decide)) (λg=>g.elim (λg=>h g.2.2) (λg=>absurd g (show ¬(2:Int)=3 by decide)))),Ub h])
   have q:(a.toList==[])=true:=by rw[ZH];exact Ac i
   go_enter func174,ntmps174;go_wp2;go_ret;exact⟨oB (by rw[E.o];first|rfl|simp),zB⟩
  .have E:cB (el ⟨2,a,b,c⟩=cA):=bB (DC λf=>f.2.2.elim (λg=>absurd g.1 (show ¬(2:Int)=1 by decide)) (λg=>g.elim (λg=>i g.2.1) (λg=>absurd g (show ¬(2:Int)=3 by decide))));have q:(a.toList==[])=cA:=by rw[ZH];exact Ub i
   go_enter func174,ntmps174;go_wp2;go_ret;exact⟨oB E.o.symm,zB⟩
 by_cases n:d=3
 .subst n;have E:cB (el ⟨3,a,b,c⟩=true):=bB (XY ⟨by simp only;omega,by simp only;omega,La (La rfl)⟩);go_enter func174,ntmps174;go_wp2;go_ret;exact⟨oB E.o.symm,zB⟩
 have E:cB (el ⟨d,a,b,c⟩=cA):=bB (DC λf=>f.2.2.elim (λg=>l g.1) (λg=>g.elim (λg=>m g.1) (λg=>n g)));go_enter func174,ntmps174;go_wp2;go_ret;exact⟨oB E.o.symm,zB⟩
def aPj:Op:=Op.convert 9 22 (Operand.tmp 24)
theorem mo(d:Int)(a:Option Addr)(p:Nat)(c:List xD)(w:World)(hf:tI w a c)(hB:xk c)(hR:JK c)(B:wU d)(hlen:c.length<=2000000):
 Calls prog 106 #[.agg #[.int .i64 d,.slice a c.length p]] w λe f=>e=.returned (.string (lJ d c))/\Below w.1.size w f:=by
 have HW1:cB (∀W,Calls prog 91 #[.int .i64 d,.int .i64 1,.int .i64 1000000000000000] W λe f=>e=.returned (.bool (decide (1<=d/\d<=1000000000000000)))/\f=W):=λW=>by have:=dE d 1 1000000000000000 W;rw[OV]at this;exact this
 have HW2:cB (∀W,Calls prog 91 #[.int .i64 (c.length:Nat),.int .i64 1,.int .i64 500] W λe f=>e=.returned (.bool (decide (1<=((c.length:Nat):Int)/\((c.length:Nat):Int)<=500)))/\f=W):=λW=>by have:=dE (c.length:Nat) 1 500 W;rw[OV]at this;exact this
 have Q:cB (decide (1<=d/\d<=1000000000000000)=false\/decide (1<=((c.length:Nat):Int)/\((c.length:Nat):Int)<=500)=false->lJ d c=ByteArray.empty):=λh=>NW λhh=>by
  obtain⟨h1,h2,h3,h4,-⟩:=hh;rcases h with h|h<;>exact of_decide_eq_false h ⟨by omega,by omega⟩
 have HN2:cB (decide (1<=d/\d<=1000000000000000)=true->decide (1<=((c.length:Nat):Int)/\((c.length:Nat):Int)<=500)=true->(1<=d/\d<=1000000000000000)/\1<=((c.length:Nat):Int)/\((c.length:Nat):Int)<=500):=λh h'=>⟨Wd h,Wd h'⟩
 generalize decide (1<=d/\d<=1000000000000000)=d1 at *;generalize decide (1<=((c.length:Nat):Int)/\((c.length:Nat):Int)<=500)=d2 at *;go_enter func106,ntmps106;go_wp2_with fail;refine tD (HW1.o _) ?_;cases d1
 .have E:=bB (Q.o (by simp));go_wp2;go_ret;exact⟨by rw[E.o];rfl,zB⟩
 go_wp2_with fail;refine tD (HW2.o _) ?_;cases d2
 .have E:=bB (Q.o (by simp));go_wp2;go_ret;exact⟨by rw[E.o];rfl,zB⟩
 have c1:=HN2.o (by simp) (by simp);have HF:cB (tI w a c):=hf;have HB:cB (xk c):=hB;have HR:cB (JK c):=hR;have M:cB (∀W,Calls prog 54 #[.int .i64 8,.int .i64 d] W λe f=>e=.returned (.string (pB 8 d))/\Below W.1.size W f):=λW=>lD 8 d W (by omega) B.1 B.2;have L:cB (∀W,Calls prog 54 #[.int .i64 2,.int .i64 (c.length:Nat)] W λe f=>e=.returned (.string (pB 2 (c.length:Nat)))/\Below W.1.size W f):=λW=>lD 2 (c.length:Nat) W (by omega) (by omega) (by omega);have hz8:=gB 8 d;have hz2:=gB 2 (c.length:Nat);have HKB:cB (dW d c->lJ d c=pB 8 d++pB 2 (c.length:Nat)++wH c):=λh=>FW h;have HOK:cB (oc c->dW d c):=λh=>⟨by omega,by omega,by omega,by omega,h⟩
 generalize pB 8 d=T at *;generalize pB 2 (c.length:Nat)=S at *;have hz10:(T++S).size=10:=by rw[Ka,hz8,hz2]
 obtain⟨CV,CN,hcv,hcn⟩:=GA (T++S) (by omega);have J:cB _:=hcn;go_upto_region 3 with fail;have X6:cB (nB (w.alloc (.cells #[.int .i64 d,.slice a c.length p] 127)) w.1.size #[.int .i64 d,.slice a c.length p] 127):=nB.new _ _ _;have B0:cB (Below w.1.size w (w.alloc (.cells #[.int .i64 d,.slice a c.length p] 127))):=zB;generalize w.alloc (.cells #[.int .i64 d,.slice a c.length p] 127)=H at *;have A:cB (∀f,Below H.1.size H f->f.cell? ⟨w.1.size,0,none⟩=some (.int .i64 d)/\f.cell? ⟨w.1.size,1,none⟩=some (.slice a c.length p)):=λf h=>by
  have q:=X6.o.z h;exact⟨q.cell 0,q.cell 1⟩
 have x0:=A.o H iD;go_cut [3] (λs wx=>jN wx H.1.size s (T++S)/\Below H.1.size H wx)
 case first=>
  rw[show Op.convert 9 22 (Operand.tmp 24)=aPj from rfl];have hop:aPj=Op.convert 9 22 (Operand.tmp 24):=rfl;go_region_held3 (λf=>f.cell? ⟨w.1.size,0,none⟩=some (.int .i64 d)/\f.cell? ⟨w.1.size,1,none⟩=some (.slice a c.length p))
   (first|go_keep|exact A.o _ (vB k4 (J.o _).2)|exact A.o _ k4|exact A.o _ k3)
   (first
    |(go_at_call 54;(fail_if_success (have q:=k3));refine(M.o _).mono ?_;rintro e w3 ⟨rfl,U⟩;have k3:Below H.1.size H w3:=(by exact vB iD.drew U))
    |(go_at_call 54;have q:=k3;refine(L.o _).mono ?_;rintro e w4 ⟨rfl,V⟩;have k4:Below H.1.size H w4:=(by exact vB k3 V)))
  all_goals(go_wp2_with fail;go_meet)
  all_goals exact⟨(J.o _).1.mono k4.size,vB k4 (J.o _).2⟩
 obtain⟨D,Y⟩:=hcut;rename World=>w5;have B5:cB _:=vB B0.o Y;have HBL:cB (jN w5 w.1.size u3 (T++S)):=D.mono B0.o.size;have HK5:cB _:=λf h=>A.o f (vB Y h);have y0:=HK5.o w5 iD;go_wp2;go_loopw [3,5,29] (λout _ i wr=>∃(k:Nat)(G:ByteArray),k<=c.length/\i=.int .i64 k/\G.size<=10+k*3000000000/\cB (G=T++S++wH (c.take k))/\cB (∀j(h:j<c.length),j<k->fP c[j])/\cB (jN wr w.1.size out G)/\Below w.1.size w wr) (λ_ _ i _=>c.length-(intOf i).toNat)
 case atStart=>
  exact⟨0,T++S,Oa _,rfl,by omega,by show _=_;simp[wH],λj _ h=>absurd h (by omega),HBL.o,B5.o⟩
 case round=>
  obtain⟨k,G,hk,rfl,hst,HST,u,g,l⟩:=hrel;by_cases C:k<c.length
  .obtain ⟨b,o,rfl,hb,c0,c1,c2,c3⟩:=(HF.o.z l).at C;obtain⟨hn1,hn2⟩:=HB.o k C;obtain⟨b0,d0⟩:=HR.o k C;have v:cB (∀W,Calls prog 174 #[.agg #[.int .i64 c[k].K,.string c[k].T,.string c[k].X,.int .i64 c[k].U]] W λe f=>e=.returned (.bool (el c[k]))/\Below W.1.size W f):=λW=>mv _ _ _ _ W hn1 hn2;by_cases y:fP c[k]
   .rw[XY y]at v;have HK1:cB (∀W,Calls prog 54 #[.int .i64 1,.int .i64 c[k].K] W λe f=>e=.returned (.string (pB 1 c[k].K))/\Below W.1.size W f):=λW=>lD 1 _ W (by omega) b0.1 b0.2;have HS8:cB _:=λW=>jQ c[k].T W hn1;have HS16:cB _:=λW=>rO c[k].X W hn2;have HN8:cB (∀W,Calls prog 54 #[.int .i64 8,.int .i64 c[k].U] W λe f=>e=.returned (.string (pB 8 c[k].U))/\Below W.1.size W f):=λW=>lD 8 _ W (by omega) d0.1 d0.2;have hq1:=gB 1 c[k].K;have hq2:=rF c[k].T;have hq3:=iF c[k].X;have hq4:=gB 8 c[k].U;have HA2:cB (∀j(h:j<c.length),j<k+1->fP c[j]):=λj h hj=>by
     rcases Gc j k with h1|h1
     .exact u.o j h h1
     .obtain rfl:j=k:=by omega
      exact y
    have HT:=pg c k C;have E2:cB (G++(pB 1 c[k].K++aN c[k].T++aG c[k].X++pB 8 c[k].U)=T++S++wH (c.take (k+1))):=by show _=_;rw[HT,HST.o,UI,Wa]
    generalize pB 1 c[k].K=m at *;generalize aN c[k].T=n at *;generalize aG c[k].X=z at *;generalize pB 8 c[k].U=K at *;generalize c[k].K=ki at *;generalize c[k].T=te at *;generalize c[k].X=tx at *;generalize c[k].U=nu at *;have hq5:(m++n).size=m.size+n.size:=Ka;have hq6:(m++n++z).size=m.size+n.size+z.size:=by rw[Ka,hq5]
    have hq7:(m++n++z++K).size=m.size+n.size+z.size+K.size:=by rw[Ka,hq6]
    have hq8:(G++(m++n++z++K)).size=G.size+(m.size+n.size+z.size+K.size):=by rw[Ka,hq7]
    have n1:¬(9223372036854775807<m.size+n.size):=by omega
    have n2:¬(9223372036854775807<m.size+n.size+z.size):=by omega
    have n3:¬(9223372036854775807<m.size+n.size+z.size+K.size):=by omega
    have HQ:cB (m.size=1/\n.size=1+te.size/\z.size=2+tx.size/\K.size=8):=⟨hq1,hq2,hq3,hq4⟩
    clear hq1 hq2 hq3 hq4;obtain⟨gv,hgv,hgv1,hgv2⟩:=g.o.lt;have P:=bB (nB.new wr #[.int .i64 ki,.string te,.string tx,.int .i64 nu] 137);have HBW:=bB (wF wr (.cells #[.int .i64 ki,.string te,.string tx,.int .i64 nu] 137));go_wp2_with fail;refine(v.o _).mono ?_;rintro e W ⟨rfl,r⟩;have A:=bB (λf(h:Below W.1.size W f)=>(P.o.z r).z h);have X:=vB HBW.o r;have R:=bB (Vc (g.o.z X) (vB l X));have hBX:=aB (P.o.z r);have hww:=R.o.2.size;have hngv:gv≠wr.1.size:=by omega
    have HGV:=bB hgv;clear g P hb c0 c1 c2 c3 l r X HBW v hgv hgv1 hgv2;go_wp2_with fail;generalize wr.1.size=I at *;have x:cB (∀f,Below W.1.size W f->f.cell? ⟨I,0,none⟩=some (.int .i64 ki)/\f.cell? ⟨I,1,none⟩=some (.string te)/\f.cell? ⟨I,2,none⟩=some (.string tx)/\f.cell? ⟨I,3,none⟩=some (.int .i64 nu)):=λf h=>⟨(A.o f h).cell 0,(A.o f h).cell 1,(A.o f h).cell 2,(A.o f h).cell 3⟩
    have x0:=x.o W iD;go_region_held3 (λf=>f.cell? ⟨I,0,none⟩=some (.int .i64 ki)/\f.cell? ⟨I,1,none⟩=some (.string te)/\f.cell? ⟨I,2,none⟩=some (.string tx)/\f.cell? ⟨I,3,none⟩=some (.int .i64 nu))
     (first|go_keep|exact O|exact x.o _ t|exact x.o _ a0|exact x.o _ hc2|exact x.o _ Z)
     ((first
       |(go_at_call 54;(fail_if_success (have q:=Z));refine(HK1.o _).mono ?_;rintro e w1 ⟨rfl,hb1⟩;have Z:Below W.1.size W w1:=(Below.refl _ W).drew.trans hb1)
       |(go_at_call 92;refine(HS8.o _).mono ?_;rintro e w2 ⟨rfl,hb2⟩;have hc2:=vB Z hb2)
       |(go_at_call 62;refine(HS16.o _).mono ?_;rintro e w3 ⟨rfl,U⟩;have a0:=vB hc2 U)
       |(go_at_call 54;have q:=a0;refine(HN8.o _).mono ?_;rintro e w4 ⟨rfl,V⟩;have t:=vB a0 V)
       |(have q:=t;refine VC _ (by rfl) _ _ (by rfl) w.1.size _ G (m++n++z++K) (by rfl) (by exact R.o.1.z t) (by rfl) (by have:=t.size;omega) (by have:=HQ.o;omega) ?_;intro v5 w5 F hB5 hk5;have O:=VN (hk5 I (by have:=t.size;omega) (λe=>hngv (Lc (HGV.o.symm.trans e)))) (x.o _ t))))
    have HO5:=bB (Vc F ((vB R.o.2 t).trans hB5));have hst5:(G++(m++n++z++K)).size<=10+(k+1)*3000000000:=by have:=HQ.o;omega
    generalize G++(m++n++z++K)=st5 at *;go_wp2;exact⟨⟨k+1,st5,by omega,by go_num,hst5,E2.o,HA2.o,HO5.o.1,HO5.o.2⟩,by simp[intOf];omega⟩
   .have E:cB _:=uv C y d;rw[DC y]at v;generalize c[k].K=ki at *;generalize c[k].T=te at *;generalize c[k].X=tx at *;generalize c[k].U=nu at *;go_wp2_with fail;refine(v.o _).mono ?_;rintro e W ⟨rfl,r⟩;have BW:cB _:=vB (vB l zB) r;go_wp2;go_ret;exact⟨by rw[E.o];rfl,BW.o⟩
  .have N:oc c:=λj h=>u.o j h (by omega);have E2:cB (G=lJ d c):=by
    show _=_;rw[HST.o,Ra (by omega),HKB.o (HOK.o N)]
   have hbk:=DQ g.o;rw[E2.o]at hbk;go_wp2;go_ret;exact⟨rfl,l⟩
structure S0(n:Nat)(w wx:World)(a:mC)(cap:Nat)(c k cr fl:Int):Prop where
 dk:nB wx n #[pA a 0 cap,zA c,zA k,zA cr,zA fl,qA cA] 35
 rd:nB wx (n+1) #[pA aA 0 0,zA 0,zA 0,zA 0,zA 0,qA cA] 35
 rl:nB wx (n+1+1) #[zA 0,zA 0,zA 0] 37
 be:Below n w wx
section
variable {n:Nat} {w W W':eA} {a:mC} {cap:Nat} {c k cr fl:Int}
theorem S0.z(h:S0 n w W a cap c k cr fl)(b:uB W W'):S0 n w W' a cap c k cr fl:=⟨h.dk.z b,h.rd.z b,h.rl.z b,h.be.trans (b.mono (Vg (aB h.dk)))⟩
theorem S0.cells(h:S0 n w W a cap c k cr fl):(W.cell? (dB n 0)=bA (pA a 0 cap)/\W.cell? (dB n 1)=bA (zA c)/\W.cell? (dB n 2)=bA (zA k)/\W.cell? (dB n 3)=bA (zA cr)/\W.cell? (dB n 4)=bA (zA fl)/\W.cell? (dB n 5)=bA (qA cA))/\(W.cell? (dB (n+1) 0)=bA (pA aA 0 0)/\W.cell? (dB (n+1) 1)=bA (zA 0)/\W.cell? (dB (n+1) 2)=bA (zA 0)/\W.cell? (dB (n+1) 3)=bA (zA 0)/\W.cell? (dB (n+1) 4)=bA (zA 0)/\W.cell? (dB (n+1) 5)=bA (qA cA))/\(W.cell? (dB (n+1+1) 0)=bA (zA 0)/\W.cell? (dB (n+1+1) 1)=bA (zA 0)/\W.cell? (dB (n+1+1) 2)=bA (zA 0))/\(∀j,W.frozen? (dB n j)=cA)/\(∀j,W.frozen? (dB (n+1) j)=cA)/\(∀j,W.frozen? (dB (n+1+1) j)=cA)/\n+1+1<W.1.size:=
 ⟨h.dk.c6,h.rd.c6,h.rl.c3,h.dk.free,h.rd.free,h.rl.free,aB h.rl⟩
end
def aDd(K:yD)(w:eA)(e:Ending)(f:eA):Prop:=
 ∃(d:mC)(b:Nat)(g:mC)(a:Nat),e=uA (.tuple #[tA #[pA d (yA K.fs) b,zA K.c,zA K.k,zA K.cr,zA K.fl,qA K.dn],tA #[zA 1,zA 1,zA 0],pA g 0 a,zA 0])/\tB f d K.fs/\uB w f
def aFc:(prog.info? 35).map (·.size)=bA 6:=by kernel_rfl
def aFd:(prog.info? 37).map (·.size)=bA 3:=by kernel_rfl
def aOd{j:Func}{t:Act}{w W:eA}{K:yD}{a f s:mC}{cap d n:Nat}{c k cr fl:Int}(G:j.results=#[.cell 2 35,.cell 3 37,.tmp 4,.tmp 5])(x:t.tmps.getD 2 undef=.pointer (yB (w.1.size+1)))(y:t.tmps.getD 3 undef=.pointer (yB (w.1.size+1+1)))(z:t.tmps.getD 4 undef=pA s 0 n)(A:t.tmps.getD 5 undef=zA 0)(F:t.defers=[])(H:S0 w.1.size w W a cap c k cr fl)(q:tB W f K.fs):
 bodyPost prog j (λe L=>aDd K w e L) .ret t (((((((((W.setCell (dB (w.1.size+1) 0) (pA f (yA K.fs) d)).setCell (dB (w.1.size+1) 1) (zA K.c)).setCell (dB (w.1.size+1) 2) (zA K.k)).setCell (dB (w.1.size+1) 3) (zA K.cr)).setCell (dB (w.1.size+1) 4) (zA K.fl)).setCell (dB (w.1.size+1) 5) (qA K.dn)).setCell (dB (w.1.size+1+1) 0) (zA 1)).setCell (dB (w.1.size+1+1) 1) (zA 1)).setCell (dB (w.1.size+1+1) 2) (zA 0)):=by
 obtain⟨h,l⟩:∃h,h=((((((W.setCell (dB (w.1.size+1) 0) (pA f (yA K.fs) d)).setCell (dB (w.1.size+1) 1) (zA K.c)).setCell (dB (w.1.size+1) 2) (zA K.k)).setCell (dB (w.1.size+1) 3) (zA K.cr)).setCell (dB (w.1.size+1) 4) (zA K.fl)).setCell (dB (w.1.size+1) 5) (qA K.dn)):=⟨_,rfl⟩
 rw[<-l];obtain⟨W',p⟩:∃W',W'=((h.setCell (dB (w.1.size+1+1) 0) (zA 1)).setCell (dB (w.1.size+1+1) 1) (zA 1)).setCell (dB (w.1.size+1+1) 2) (zA 0):=⟨_,rfl⟩
 rw[<-p];have u:=l ▸ gR _ _ _ _ _ _;have v:=p ▸ (((qD.refl _ _).setCell 0 _).setCell 1 _).setCell 2 _;have B:=((eB.but u).mono λi _ e=>Ca e).trans' ((eB.but v).mono λi _ e=>La e);have D:=nB.but (l ▸ OU H.rd) v (by omega);have E:nB W' (w.1.size+1+1) #[zA 1,zA 1,zA 0] 37:=by
  have:=(((H.rl.but u (by omega)).set 0 (zA 1)).set 1 (zA 1)).set 2 (zA 0);rw[p];simpa using this
 have C:=H.be.trans (B.below (Ua (Vg (aB H.dk)) (Ia _)) λi M e=>by omega);have m:=QI q B λb o e g=>by
  obtain g|g:=g;exact FU (kX q H.rd) e g;exact FU (JN q H.rl) e g
 have r:(results j t.tmps).run prog W'=.ok (.tuple #[tA #[pA f (yA K.fs) d,zA K.c,zA K.k,zA K.cr,zA K.fl,qA K.dn],tA #[zA 1,zA 1,zA 0],pA s 0 n,zA 0]) W':=by
  have I:=run_loadVar_row (P:=prog) W' (w.1.size+1) 35 35 _ (0,0) _ D underlying35 rfl (by rw[aFc];rfl);have J:=run_loadVar_row (P:=prog) W' (w.1.size+1+1) 37 37 _ (0,0) _ E underlying37 rfl (by rw[aFd];rfl);simp at x y z A;simp[results,G,x,y,z,A,asAddr,I,J]
 exact bodyPost_ret r F ⟨f,d,s,n,rfl,m,C⟩
def VB(a:mC)(cap:Nat)(c k cr fl:Int)(w:eA)(h:eF [] c k cr fl=true)(K:yD)(O:gF ⟨[],c,k,cr,fl,cA⟩ (aH 1)=(K,0)):
 gA prog 45 #[tA #[pA a 0 cap,zA c,zA k,zA cr,zA fl,qA cA]] w λe i=>aDd K w e i:=by
 have n:=bB h;clear h;go_enter func45,ntmps45;go_upto_region 2 with fail;have f:=JV (w:=w) (x:=#[pA a 0 cap,zA c,zA k,zA cr,zA fl,qA cA]) (tx:=35) (y:=#[pA aA 0 0,zA 0,zA 0,zA 0,zA 0,qA cA]) (ty:=35) (z:=#[zA 0,zA 0,zA 0]) (tz:=37) (u:=#[]) (tu:=9) iD;generalize ((((w.alloc (vA #[pA a 0 cap,zA c,zA k,zA cr,zA fl,qA cA] 35)).alloc (vA #[pA aA 0 0,zA 0,zA 0,zA 0,zA 0,qA cA] 35)).alloc (vA #[zA 0,zA 0,zA 0] 37)).alloc (vA #[] 9))=h at *;have H:cB (S0 w.1.size w h a cap c k cr fl):=⟨f.1,f.2.1,f.2.2.1,f.2.2.2.2⟩
 clear f;obtain⟨⟨s,t,v,A,B,C⟩,-⟩:=H.o.cells;have l:=bB (yV a cap [] c k cr fl cA h (Ca rfl) tQ.H (by simp) tQ.sum);rw[n.o]at l;simp only[List.length_nil]at l;go_wp2_with fail;apply lC l.o;intro w4 m;replace H:=bB (H.o.z m);clear m s t v A B C l;obtain⟨⟨s,t,v,A,B,C⟩,⟨n,W,r2,r3,r4,r5⟩,⟨s0,s1,s2⟩,yd,yr,yl,o⟩:=H.o.cells;obtain⟨r,d,G,g,h,X,I⟩:=PJ w4 a cap [] (Ca rfl) (by simp);simp only[List.length_nil]at g;have p:=bB g;have F:cB (S0 w.1.size w G a cap c k cr fl):=H.o.z X;have Y:tC G w.1.size 0 (pA a 0 cap):=F.o.dk.cell 0;have b:=F.o.dk.free 0;have J:w.1.size<w4.1.size:=by omega
 have U:¬w.1.size=w4.1.size:=by omega
 clear g h X I;go_upto_region 4 with fail;go_cut [36] (λ_ h=>∃r d,S0 w.1.size w h r d c k cr fl)
 case first=>as_aux_lemma=>
  go_wp2_with(at_builtin;refine Lib.wpList_append_run _ rfl _ _ _ _ rfl _ _ rfl rfl _ _ p.o ?_);go_meet;have E:qD w.1.size G (G.setCell (dB w.1.size 0) (pA r 0 d)):=(qD.refl _ _).setCell 0 _;have G:=F.o.dk.set 0 (pA r 0 d);exact⟨r,d,by simpa using G,F.o.rd.but E (by omega),F.o.rl.but E (by omega),F.o.be.setCell (Ia _) _⟩
 clear F p Y b J U H s t v A B C n W r2 r3 r4 r5 s0 s1 s2 yd yr yl o;clear r d;obtain⟨r,d,G⟩:=hcut;rename eA=>q;have H:=bB G;clear G;obtain⟨⟨s,t,v,A,B,C⟩,⟨n,W,r2,r3,r4,r5⟩,⟨s0,s1,s2⟩,yd,yr,yl,o⟩:=H.o.cells;have G:w.1.size<q.1.size:=by omega
 have G:¬w.1.size=q.1.size:=by omega
 go_upto_block 0 with fail;go_cut [7,47] (λG _ h=>G=pA (yB q.1.size) 0 0/\uB q h)
 case first=>as_aux_lemma=>
  go_wp2_with fail;go_loopw [7,47] (λG I wr=>I=zA 0/\G=pA (yB q.1.size) 0 0/\uB q wr) (λ_ I _=>0-(intOf I).toNat)
  case atStart=>exact⟨rfl,rfl,zB⟩
  case round=>
   obtain⟨rfl,rfl,Z⟩:=hrel;go_wp2;go_meet;exact⟨rfl,Z⟩
 obtain⟨rfl,Y⟩:=hcut;rename eA=>I;replace H:=bB (H.o.z Y);clear Y s t v A B C n W r2 r3 r4 r5 s0 s1 s2 yd yr yl o;obtain⟨⟨s,t,v,A,B,C⟩,-⟩:=H.o.cells;obtain⟨N,c1,Y,J,M,L⟩:=K;have Q:=tt (D:=⟨[],c,k,cr,fl,cA⟩) (op:=aH 1) tQ (by have:=bL 1;unfold maxLen;show(zE 1).size<=_;omega) (by show(0:Nat)<=_;omega) (by show(0:Nat)<=_;omega) (by simp[aH]) (by rw[O]);rw[O]at Q;have G:cB (iZ ⟨[],c,k,cr,fl,cA⟩ ⟨1,zE 1,⟨#[]⟩,⟨#[]⟩,0⟩ ⟨N,c1,Y,J,M,L⟩ 0):=Q;unfold iZ at G;simp only[List.length_nil]at G;clear Q O;go_upto_region 15 with fail;go_cut [10,11] (λO U h=>∃P,O=.pointer (yB P)/\U=zA 0/\PX I P N c1 Y J M L h)
 case first=>as_aux_lemma=>
  have j:=bB (λi(h:uB I i)=>(H.o.dk.z h).c6);go_region_held3 (λi=>i.cell? (dB w.1.size 0)=bA (pA r 0 d)/\i.cell? (dB w.1.size 1)=bA (zA c)/\i.cell? (dB w.1.size 2)=bA (zA k)/\i.cell? (dB w.1.size 3)=bA (zA cr)/\i.cell? (dB w.1.size 4)=bA (zA fl)/\i.cell? (dB w.1.size 5)=bA (qA cA))
   (first|go_keep|with_reducible exact j.o _ (aCj S (Ia _))|with_reducible exact j.o _ (aCj S R.size)|with_reducible exact j.o _ S|with_reducible exact j.o _ R|with_reducible exact j.o _ (vB R zB)|with_reducible exact j.o _ (zB.drew)|with_reducible exact j.o _ (vB S zB))
   (first
   |(go_at_call 104;apply lC (rR _ _);intro v2 O;have R:uB I v2:=(by first|with_reducible exact vB iD.drew O|with_reducible exact vB (zB.drew) O);have c2:=j.o _ R;(first|(have T:=uK O)|skip))
   |(go_at_call 42;refine(G.o _ _ _ (Ca rfl)).mono ?_;rintro e v3 ⟨a2,V,rfl,h,f⟩;have U:=bB h;have S:uB I v3:=(by first|with_reducible exact vB R f|with_reducible exact vB (vB R zB) f);have h:=j.o _ S;(first|(have T:=T.z f)|(have T:nB _ v2.1.size _ _:=sM f)|skip);(try (obtain⟨h,h,h,h,h,h⟩:=T.c6;have b:=T.free))))
  all_goals(go_wp2_with fail;go_meet)
  all_goals first
   |with_reducible exact⟨_,rfl,rfl,ry U.o S⟩
   |exact⟨_,rfl,rfl,rz U.o S (by first|exact Ia _|exact R.size) T⟩
 obtain⟨P,rfl,rfl,a2,V,h,h,G,m⟩:=hcut;rename eA=>I;replace H:=bB (H.o.z m);clear s t v A B C;obtain⟨⟨s,t,v,A,B,C⟩,⟨n,W,r2,r3,r4,r5⟩,⟨s0,s1,s2⟩,yd,yr,yl,o⟩:=H.o.cells;obtain⟨n,n,n,n,n,n⟩:=h.c6;go_wp2;exact aOd (K:=⟨N,c1,Y,J,M,L⟩) rfl rfl rfl rfl rfl rfl H.o G
section
open Go.Maps
def mn(m:Nat)(L:List (fB×Nat))(w:eA)(h:w.ownsMap prog 9 tE m (yA L) (fE (L.map λp=>(p.1.N,mF p.2))))(j:zC (λp:fB×Nat=>p.1.N) L)(k:yA L<=1000000000):
 gA prog 74 #[.func (.func 136) #[] #[.pointer (yB w.1.size)]] (w.alloc (vA #[.map (bA m)] 158)) λe f=>∃v,e=uA v/\f.ownsRow w.1.size 9 1 v (yA L) (L.map λp=>oA p.1.N)/\uB w f:=by
 have c:Maps.size (fE (L.map λp=>(p.1.N,mF p.2)))=yA L:=by rw[bN]
 refine gA.mono (callsIn_wide.1 (slices_Sorted_keys_74_75 m _ _ tE w h (by rw[c];unfold maxLen;omega) (by rw[c];omega))) ?_;rintro e l ⟨v,h,rfl,d,a,_,g⟩;have i:(strKeys (fE (L.map λp=>(p.1.N,mF p.2))))=L.map λp=>p.1.N.data.toList:=by
  rw[zV,Vd];rfl
 rw[i]at d;have b:yA h=yA L:=by rw[d.length_eq,Xa]
 rw[KL (key:=λp:fB×Nat=>p.1.N) j d,QC (λp:fB×Nat=>p.1.N),b]at a;exact⟨v,rfl,qI a (by simp),vB zB g⟩
def aCc{W:eA}{B:Nat}{e:TypeId}{v:iA}{L:List (fB×Nat)}(h:W.ownsRow B e 1 v (yA L) (L.map λp=>oA p.1.N)):
 ∃j o,v=pA j (yA L) o/\(L=[]\/∃g,j=yB g/\B<=g/\g<W.1.size/\∀i(h:i<yA L),W.cell? (dB g i)=bA (oA L[i].1.N)):=by
 obtain⟨rfl,f⟩|⟨g,b,a,rfl,k,d,_,_,n,c⟩:=h.2;refine ⟨aA,0,by rw[f],Ca (Nb.1 f)⟩;refine ⟨_,b,rfl,La ⟨g,rfl,k,aB d,λi m=>?_⟩⟩;have l:=nB.cell (show nB W g a e from d) i;rw[l,<-Yd];have:(a.toList.take (yA L*1))[i]?=(L.map λp=>iA.string p.1.N)[i]?:=by rw[c]
 rw[Ye,Ma (by omega)]at this;rw[this,Se,Va m];rfl
def aGa{w:eA}{B:Nat->Prop}{T:Nat->Option Nat}{l m:Nat}{c:iC}{d:Int}{L:List (fB×Nat)}{M:Nat}(h:mL w B T l m c d L M)(i:Nat)(j:i<yA L)(k:L[i].1.N.size<=maxLen):
 ∃x S,∀W,uB w W->W.cell? (dB l 7)=bA (.map (bA m))/\(Instr.lookup 158 (.map (bA m)) (oA L[i].1.N) cA).run prog W=.ok (.pointer (yB x)) W/\vD W S x L[i].1 M:=by
 have f:=Gb j;refine⟨L[i].2,_,λW b=>⟨(h.blk.z b).cell 7,?_,(h.idx _ f).z b⟩⟩;obtain⟨v,n,a,g⟩:=eA.ownsMap.lookup ((eB.of b).map (S:=λ_=>False) h.ten (λe=>e)) aM underlying158 (show(zeroValue 165).run prog W=.ok (sA aA) W by kernel_rfl) (zd:=.nil) (zp:=[]) rfl (lN k);rw[a];rw[iT (key:=λq:fB×Nat=>q.1.N) (λq=>mF q.2),vM (key:=λq:fB×Nat=>q.1.N) h.rise f]at g;rw[pR g]
def XH(l m:Nat)(c:iC)(s:Int)(B:Nat->Prop)(ts:List fB)(M:Nat)(w:eA)(h:jE w B l m c s ts M)(z:aOr ts)(hlen:yA ts<=2000000):
 gA prog 23 #[sA (bA ⟨l,0,aA⟩)] w λe w'=>∃a C,e=uA (tA #[lA mA s,pA a (yA ts) C])/\cD w' w.1.size a ts/\uB w w':=by
 obtain⟨T0,L,h,rfl⟩:=h;rw[Xa]at hlen |-
 have c6:tC w l 6 (lA mA s):=h.blk.cell 6;have hll:=aB h.blk;have HL7:cB (∀W,uB w W->tC W l 7 (.map (bA m))):=λW hW=>(h.blk.z hW).cell 7;have HLK:cB _:=λi K=>aGa h i K (z _ (Tc (Gb K))).1;have e0:cB (∀i(K:i<yA L) x S W,vD W S x L[i].1 M->gA prog 76 #[sA (bA ⟨x,0,aA⟩),oA L[i].1.N] W λe w'=>JM W L[i].1.N L[i].1 e w'):=λi K x S W hix=>by
  obtain⟨_,b,d,p,r⟩:=z _ (Tc (f:=(·.1)) (Gb K));refine(ng x L[i].1.N L[i].1 S M W hix b d (by omega) (by omega)).mono ?_;rintro e w' ⟨v1,v2,M',rfl,r1,hM1,hM2,hM3,r2,hb⟩;obtain⟨a1,c1,rfl⟩:=tF r1;obtain⟨a2,c2,rfl⟩:=tF r2;exact⟨M',a1,c1,a2,c2,rfl,hM2,oD r1,λg o e=>hM1 g (by rw[e];rfl),oD r2,hM3,hb⟩
 have c0:cB _:=λW hW=>mn m L W ((eB.of hW).map (S:=λ_=>False) h.ten (λe=>e)) h.rise (by omega);have Y:cB _:=λW=>callsIn_wide.1 (maps_Keys_75 (bA m) W);unfold JM at e0;clear h z;have B2:cB (uB w ((w.alloc (vA #[lA mA 0,pA aA 0 0] 40)).alloc (vA #[lA mA s,pA aA 0 0] 40))):=vB zB zB;have c7:=HL7.o _ B2.o;go_enter func23,ntmps23;go_wp2_with fail;apply lC (Y.o _);rintro w1 rfl;have X2:cB _:=bB (by have:=nB.new (w.alloc (vA #[lA mA 0,pA aA 0 0] 40)) #[lA mA s,pA aA 0 0] 40;simpa using this);have Y2:cB (nB ((w.alloc (vA #[lA mA 0,pA aA 0 0] 40)).alloc (vA #[lA mA s,pA aA 0 0] 40)) w.1.size #[lA mA 0,pA aA 0 0] 40):=(nB.new _ _ _).alloc _;clear c7 c6;generalize (w.alloc (vA #[lA mA 0,pA aA 0 0] 40)).alloc (vA #[lA mA s,pA aA 0 0] 40)=w2 at *;go_wp2_with fail;refine(c0.o _ B2.o).mono ?_;rintro e E ⟨kv,rfl,G,D⟩;obtain⟨ka,kc,rfl,hks⟩:=aCc G;have HKS:=bB hks;have B3:cB _:=vB B2.o D;have X3:cB (nB E (w.1.size+1) #[lA mA s,pA aA 0 0] 40):=X2.o.z D;have Y3:cB (nB E w.1.size #[lA mA 0,pA aA 0 0] 40):=Y2.o.z D;have HX2:cB _:=aB X2.o;clear G hks D X2 Y2 B2 c0 Y;go_wp2;go_loopw [5,18] (λ_ i wr=>∃(k:Nat)(v:iA),k<=yA L/\i=lA mA k/\cB (nB wr (w.1.size+1) #[lA mA s,v] 40)/\cB (eR wr E.1.size 94 v k ((L.take k).map (·.1)))/\cB (eB (·=w.1.size+1) E wr)) (λ_ i _=>yA L-(intOf i).toNat)
 case atStart=>exact⟨0,pA aA 0 0,Oa _,rfl,X3.o,eR.nil _ _ _,eB.refl _ _⟩
 case round=>
  obtain⟨k,v,hk,rfl,R,b0,y⟩:=hrel;have V:cB _:=(((eB.of (S:=λi=>w.1.size<=i) B3.o).trans' (y.o.mono λi _ e=>by omega)).below (Ia _) λi K h=>by omega)
  by_cases u:k<yA L
  .have hks2:∃g,ka=bA ⟨g,0,aA⟩/\w2.1.size<=g/\g<E.1.size/\∀i(h:i<yA L),tC E g i (oA L[i].1.N):=by
    obtain h0|h0:=HKS.o;rw[h0]at u;exact absurd u (by simp);exact h0
   obtain⟨g,rfl,hg1,hg2,hgc⟩:=hks2;have hx2:=HX2.o;have hkey:=(eA.cell?_of_block (y.o.block g hg2 (by omega))).trans (hgc k u);obtain⟨x,S,Z⟩:=HLK.o k u;have HQ:=bB Z;have HTK:=bB (e0.o k u x S);have HLT:cB ((L.take (k+1)).map (·.1)=(L.take k).map (·.1)++[L[k].1]):=by show _=_;rw[Pa u,Ld];rfl
   have HLL:cB (yA ((L.take k).map (·.1))=k):=by show _=_;rw[Xa,Hb];omega
   have hsz3:=y.o.size;have hB3s:=B3.o.size;clear hgc Z;generalize (L.take k).map (·.1)=TS at *;generalize L[k].1=t at *;obtain⟨T,ys,I,hV2,hV3,hV4⟩:=b0.o;have HV1:=bB I;have g0:=bB hV2;have HV3:=bB hV3;have HV4:=bB hV4;have Q:=λq hq=>I.lt q hq;have agv:v.ownBlock≠bA (w.1.size+1):=λe=>by have:=(Q _ e).1;omega
   have X:cB (∀W,uB wr W->tC W (w.1.size+1) 1 v):=λW hW=>(R.o.z hW).cell 1;have v5:tC wr (w.1.size+1) 1 v:=R.o.cell 1;obtain⟨q1,q2,q3⟩:=HQ.o wr.drew V.o.drew;have Q3:=bB q3;clear I hV2 hV3 hV4 q3;go_wp2_with fail;go_region_law
    (first
     |((fail_if_success (have q:=J));refine eE (f:=76) (args:=#[sA (bA ⟨x,0,aA⟩),oA t.N]) rfl (by go_simp) ?_;refine(HTK.o _ Q3.o).mono ?_;rintro e U ⟨M4,a1,d1,a2,d2,rfl,hM,o1,o1M,o2,oM,J⟩;have A:uB wr U:=vB iD.drew J;have x4:=X.o _ A;have x5:(U.alloc (vA #[oA t.N,lA mA t.L,pA a1 (yA t.M) d1,pA a2 (yA t.Z) d2] 94)).cell? ⟨w.1.size+1,1,aA⟩=bA v:=X.o _ (vB A zB);have O:=bB (Vc hM (Vc o1 (Vc o1M (Vc o2 oM))));clear hM o1 o1M o2 oM;refine⟨_,rfl,?_⟩)
     |(have q:=J;clear q;refine kQ (by rfl) _ _ (by rfl) underlying38 nO rfl (by omega) (by omega) (by rfl) (by exact hC HV1.o A) (by rfl) (by rfl) (cs:=#[oA t.N,lA mA t.L,pA a1 (yA t.M) d1,pA a2 (yA t.Z) d2]) rfl (by simp[iA.oneCell']) (by omega) (by have:=A.size;omega) ?_;intro gg C w5 O5 T5 A5;have H:=bB (T5.o.blk (R.o.z A) (λe=>by have:=e.1;omega));have s5:=H.o.cell 1;have j:=H.o.free 1))
   all_goals(
    have hsz4:=A.size;have hgg:(v.ownBlock=bA gg/\gg<wr.1.size)\/U.1.size<=gg:=A5.o.imp_left λh=>⟨h,(Q _ h).2⟩
    obtain⟨h1,h3,h4⟩:=vQ (R.o.z A) T5.o O5.o (by omega) 1;have N:=λg(hg:g<U.1.size)(F:E.1.size<=g)(P:v.ownBlock≠bA g)=>h4.block g hg (λe=>by obtain e|e:=e;omega;exact P e.2)
    have HX6:=bB h1;have HT6:=bB (y.o.trans ((eB.of A).trans' (h4.mono λi _ e=>e.imp_right And.left)));have HR6:cB (eR (w5.setCell ⟨w.1.size+1,1,aA⟩ (pA (bA ⟨gg,0,aA⟩) (k+1) C)) E.1.size 94 (pA (bA ⟨gg,0,aA⟩) (k+1) C) (k+1) ((L.take (k+1)).map (·.1))):=by
     refine bB ?_;rw[HLT.o];have hyk:yA ys=k:=by have h1:=HLL.o;rw[<-g0.o,Xa]at h1;exact h1
     exact eR.snoc (wr:=wr) (w4:=U) (M:=M4) (v:=v) (T:=T) (ys:=ys) h3 g0.o hyk HV3.o HV4.o (by omega) O.o.1
      (λg hg F P=>(N g (by omega) F P).trans (A.block g hg))
      (λg hg hg4=>N g hg4 (by omega) (λe=>by have:=(Q _ e).2;omega))
      O.o.2.1 O.o.2.2.1 O.o.2.2.2.1 hgg hsz4 O.o.2.2.2.2)
   all_goals clear h1 h3 h4 O5 T5 A5 s5 j H N
   all_goals go_wp2
   all_goals exact⟨⟨k+1,_,by omega,by go_num,bB (by simpa using HX6.o),HR6.o,HT6.o⟩,by simp[intOf];omega⟩
  .have ek:k=yA L:=by omega
   have a0:cB (eR wr E.1.size 94 v (yA L) (L.map (·.1))):=by
    have:=b0.o;rw[ek,Rb]at this;exact this
   obtain⟨ra,rc,rfl⟩:=a0.o.row;have YW:cB (nB wr w.1.size #[lA mA 0,pA aA 0 0] 40):=y.o.blk Y3.o (by omega);have x0:tC wr (w.1.size+1) 0 (lA mA s):=R.o.cell 0;have x1:tC wr (w.1.size+1) 1 (pA ra (yA L) rc):=R.o.cell 1;have y0:tC wr w.1.size 0 (lA mA 0):=YW.o.cell 0;have y1:tC wr w.1.size 1 (pA aA 0 0):=YW.o.cell 1;have n:=YW.o.free 0;have b:=YW.o.free 1;have h31:=aB X3.o;go_wp2;have d0:eB (·=w.1.size) wr ((wr.setCell ⟨w.1.size,0,aA⟩ (lA mA s)).setCell ⟨w.1.size,1,aA⟩ (pA ra (yA L) rc)):=((eB.refl (·=w.1.size) wr).setCell (Ca rfl) 0 _).setCell (Ca rfl) 1 _;refine bodyPost_ret (v:=tA #[lA mA s,pA ra (yA L) rc]) (by simp[results,results23,go_sem,y0,y1]) rfl ⟨ra,rc,rfl,((a0.o.turn d0 (λg e=>by omega)).own (by rw[Xa])).mono (by omega),((eB.of (S:=λi=>w.1.size<=i) V.o).trans' (d0.mono λi _ e=>by omega)).below (Ia _) λi K h=>by omega⟩
end
def EW{k:eA}{B g n o:Nat}{e:TypeId}{f:List TV}(h:k.ownsRow B e 4 (pA (yB g) n o) n (lF f))(x:yA f=n):
 ∀i(v:i<yA f),k.cell? (dB g (i*4))=bA (oA f[i].t.N)/\k.cell? (dB g (i*4+1))=bA (zA f[i].t.L)/\k.cell? (dB g (i*4+2))=bA (.slice f[i].a1 (yA f[i].t.M) f[i].c1)/\k.cell? (dB g (i*4+3))=bA (.slice f[i].a2 (yA f[i].t.Z) f[i].c2)/\k.frozen? (dB g (i*4+2))=cA/\k.frozen? (dB g (i*4+3))=cA:=by
 intro i v;obtain⟨m,_⟩|⟨z,s,p,m,A,u,_,_,y,r⟩:=h.2
 .cases m
 simp only[iA.slice.injEq,Qa,Addr.mk.injEq,Cc]at m;rw[<-m.1]at u;have q:nB k g p e:=u;obtain⟨a,b,c,d⟩:=WM f i v;have l:∀j,j<yA f*4->k.cell? (dB g j)=(lF f)[j]?:=λj w=>by
  rw[q.cell j,<-Yd,<-r,Jb (by rw[<-x];exact w)]
 refine⟨?_,?_,?_,?_,q.free _,q.free _⟩;rw[l _ (by omega)];exact a;rw[l _ (by omega)];exact b;rw[l _ (by omega)];exact c;rw[l _ (by omega)];exact d
def YA{w:eA}{B n b:Nat}{e:TypeId}{v:iA}{j:List iA}(h:w.ownsRow B e b v n j):∃a c,v=pA a n c:=by
 obtain⟨d,i⟩|⟨g,f,_,d,_⟩:=h.2;exact ⟨aA,0,by rw[d,i]⟩;exact ⟨_,_,d⟩
def aBf(l:List TV)(k:Nat)(d:k<yA l)(Y:TV)(a:Y.t=l[k].t):(l.set k Y).map (·.t)=l.map (·.t):=by
 refine List.ext_getElem (by simp) (λi b c=>?_);simp only[List.getElem_map,List.getElem_set];split
 .rename_i e;subst e;exact a
 rfl
def CO(o:Int)(a:mC)(p:Nat)(n:List fB)(w:eA)(hf:xC w a n)(hlen:yA n<=2000000)(Q:∀t∈n,yA t.M<=2000000/\yA t.Z<=2000000):
 gA prog 77 #[tA #[lA mA o,pA a (yA n) p]] w λe G=>∃a' cap',e=uA (tA #[lA mA o,pA a' (yA n) cap'])/\cD G w.1.size a' n/\uB w G:=by
 have HCL:cB _:=λW N=>ov a p n w W hf N hlen;have HFT:=bB Q;have B0:cB (uB w ((w.alloc (vA #[lA mA o,pA a (yA n) p] 40)).alloc (vA #[lA mA 0,pA aA 0 0] 40))):=vB zB zB;have P0:cB (nB ((w.alloc (vA #[lA mA o,pA a (yA n) p] 40)).alloc (vA #[lA mA 0,pA aA 0 0] 40)) w.1.size #[lA mA o,pA a (yA n) p] 40):=(nB.new _ _ _).alloc _;have Q0:cB _:=bB (by have:=nB.new (w.alloc (vA #[lA mA o,pA a (yA n) p] 40)) #[lA mA 0,pA aA 0 0] 40;simpa using this);have hs0:w.1.size+1<((w.alloc (vA #[lA mA o,pA a (yA n) p] 40)).alloc (vA #[lA mA 0,pA aA 0 0] 40)).1.size:=by simp
 go_enter func77,ntmps77;go_wp2_with fail;refine(HCL.o _ B0.o).mono ?_;rintro e x ⟨v,E,rfl,ho1,hys,U,A⟩;have P1:cB (nB x w.1.size #[lA mA o,pA a (yA n) p] 40):=P0.o.z A;have Q1:cB (nB x (w.1.size+1) #[lA mA 0,pA aA 0 0] 40):=Q0.o.z A;have I:cB _:=vB B0.o A;have O1:=bB ho1;have a0:=bB hys;have HOL:=bB U;have y0:x.cell? ⟨w.1.size,1,aA⟩=bA (pA a (yA n) p):=P1.o.cell 1;have fy:=P1.o.free 1;have hs1:=A.size;generalize ((w.alloc (vA #[lA mA o,pA a (yA n) p] 40)).alloc (vA #[lA mA 0,pA aA 0 0] 40))=V at *;have TP:cB (eB (·=w.1.size) x (x.setCell ⟨w.1.size,1,aA⟩ v)):=(eB.refl (·=w.1.size) x).setCell (Ca rfl) 1 _;have P2:cB _:=bB (by have:=P1.o.set 1 v;simpa using this);have Q2:cB (nB (x.setCell ⟨w.1.size,1,aA⟩ v) (w.1.size+1) #[lA mA 0,pA aA 0 0] 40):=TP.o.blk Q1.o (by omega);have X:cB _:=I.o.trans (TP.o.below (by have:=I.o.size;omega) λi hi e=>by omega);have O2:cB ((x.setCell ⟨w.1.size,1,aA⟩ v).ownsRow V.1.size 94 4 v (yA n) (lF E)):=TP.o.row O1.o (λq hq e=>by have:=(O1.o.lt q hq).1;omega);obtain⟨hv,hn0⟩|⟨g,s,cur,hv,hBg,_⟩:=O1.o.2
 .subst hv;have hts:=Nb.1 hn0;have x1:(x.setCell ⟨w.1.size,1,aA⟩ (pA aA 0 0)).cell? ⟨w.1.size,1,aA⟩=bA (pA aA 0 0):=P2.o.cell 1;subst hts;go_wp2;generalize (x.setCell ⟨w.1.size,1,aA⟩ (pA aA 0 0))=H at *;go_loopw [12] (λi wr=>i=lA mA 0/\H=wr) (λ_ _=>0)
  case atStart=>exact⟨rfl,rfl⟩
  case round=>
   obtain⟨rfl,hw⟩:=hrel;subst hw;have z:=Q2;have P:=P2;have BW:=X;have z0:H.cell? ⟨w.1.size+1,0,aA⟩=bA (lA mA 0):=z.o.cell 0;have z1:H.cell? ⟨w.1.size+1,1,aA⟩=bA (pA aA 0 0):=z.o.cell 1;have fz0:=z.o.free 0;have fz1:=z.o.free 1;have s0:H.cell? ⟨w.1.size,0,aA⟩=bA (lA mA o):=P.o.cell 0;have s1:H.cell? ⟨w.1.size,1,aA⟩=bA (pA aA 0 0):=P.o.cell 1;go_wp2;have J:eB (·=w.1.size+1) H ((H.setCell ⟨w.1.size+1,0,aA⟩ (lA mA o)).setCell ⟨w.1.size+1,1,aA⟩ (pA aA 0 0)):=((eB.refl (·=w.1.size+1) H).setCell (Ca rfl) 0 _).setCell (Ca rfl) 1 _;refine bodyPost_ret (v:=tA #[lA mA o,pA aA 0 0]) (by simp[results,results77,go_sem,z0,z1]) rfl ?_;have ho:cD ((H.setCell ⟨w.1.size+1,0,aA⟩ (lA mA o)).setCell ⟨w.1.size+1,1,aA⟩ (pA aA 0 0)) w.1.size aA []:=Ca rfl;have D:=((eB.of (S:=λi=>w.1.size<=i) BW.o).trans' (J.mono λi _ e=>by omega)).below (Ia _) λi hi h=>by omega
   first
    |exact⟨aA,⟨0,rfl⟩,ho,D⟩
    |exact⟨aA,0,rfl,ho,D⟩
 subst hv;have x1:(x.setCell ⟨w.1.size,1,aA⟩ (pA (bA ⟨g,0,aA⟩) (yA n) s)).cell? ⟨w.1.size,1,aA⟩=bA (pA (bA ⟨g,0,aA⟩) (yA n) s):=P2.o.cell 1;have HC0:cB (xm w (x.setCell ⟨w.1.size,1,aA⟩ (pA (bA ⟨g,0,aA⟩) (yA n) s)) V.1.size g (yA n) s (λ_=>0) E 0 cA):=by
  have hyl:yA E=yA n:=by rw[<-a0.o,Xa]
  refine bB { row:=O2.o,len:=hyl,tg:=rfl,own:=λi _ h=>absurd h (by omega),half:=λh=>(by cases h),old:=λi hi _=>?_};obtain⟨p1,p2⟩:=HOL.o E[i] (Gb hi);exact⟨p2,λ_=>p1⟩
 go_wp2;have hs2:V.1.size<=(x.setCell ⟨w.1.size,1,aA⟩ (pA (bA ⟨g,0,aA⟩) (yA n) s)).1.size:=by simp;exact hs1
 generalize (x.setCell ⟨w.1.size,1,aA⟩ (pA (bA ⟨g,0,aA⟩) (yA n) s))=H at *;go_loopw [12] (λi wr=>∃(k:Nat)(T:Nat->Nat)(m:List TV),k<=yA n/\i=lA mA k/\cB (xm w wr V.1.size g (yA n) s T m k cA)/\cB (m.map (·.t)=n)/\cB (nB wr w.1.size #[lA mA o,pA (bA ⟨g,0,aA⟩) (yA n) s] 40)/\cB (nB wr (w.1.size+1) #[lA mA 0,pA aA 0 0] 40)/\cB (uB w wr)/\V.1.size<=wr.1.size) (λi _=>yA n-(intOf i).toNat)
 case atStart=>exact⟨0,_,E,Oa _,rfl,HC0.o,a0.o,P2.o,Q2.o,X.o,hs2⟩
 case round=>
  obtain⟨k,T,m,hk,rfl,O,HY,P,z,BW,hsr⟩:=hrel;have hyl:yA m=yA n:=by rw[<-HY.o,Xa]
  by_cases hlt:k<yA n
  .have r:k<yA m:=by omega
   have c0:=EW O.o.row O.o.len k r;have s1:wr.cell? ⟨w.1.size,1,aA⟩=bA (pA (bA ⟨g,0,aA⟩) (yA n) s):=P.o.cell 1;go_wp2;have y:=wF wr (vA #[oA m[k].t.N,lA mA m[k].t.L,.slice m[k].a1 (yA m[k].t.M) m[k].c1,.slice m[k].a2 (yA m[k].t.Z) m[k].c2] 94);have BX:cB (nB (wr.alloc (vA #[oA m[k].t.N,lA mA m[k].t.L,.slice m[k].a1 (yA m[k].t.M) m[k].c1,.slice m[k].a2 (yA m[k].t.Z) m[k].c2] 94)) wr.1.size #[oA m[k].t.N,lA mA m[k].t.L,.slice m[k].a1 (yA m[k].t.M) m[k].c1,.slice m[k].a2 (yA m[k].t.Z) m[k].c2] 94):=nB.new _ _ _;have CB:cB _:=O.o.keep (S:=λ_=>False) (eB.of y) (λ_ e=>e.elim);have L:=bB (P.o.z y);have RQb:=bB (z.o.z y);have Z:cB _:=vB BW.o y;have hsb:V.1.size<=(wr.alloc (vA #[oA m[k].t.N,lA mA m[k].t.L,.slice m[k].a1 (yA m[k].t.M) m[k].c1,.slice m[k].a2 (yA m[k].t.Z) m[k].c2] 94)).1.size:=by have:=y.size;omega
   have hgw:=(O.o.row.lt g rfl).2;have hwb:wr.1.size<(wr.alloc (vA #[oA m[k].t.N,lA mA m[k].t.L,.slice m[k].a1 (yA m[k].t.M) m[k].c1,.slice m[k].a2 (yA m[k].t.Z) m[k].c2] 94)).1.size:=by simp
   obtain⟨hO2,M⟩:=O.o.old k r (Ia _);have M:=M (Ca rfl);have R:m[k].t∈n:=by rw[<-HY.o];exact Md.2 ⟨m[k],Gb r,rfl⟩
   obtain⟨hl1,hl2⟩:=HFT.o _ R;have HM:cB (∀u W,uB w u->uB u W->gA prog 140 #[.slice m[k].a1 (yA m[k].t.M) m[k].c1] W λe G=>∃v,e=uA v/\G.ownsRow u.1.size 96 2 v (yA m[k].t.M) (flatK m[k].t.M)/\uB u G):=λu W h0 N=>(ou m[k].a1 m[k].c1 m[k].t.M W (M.z (vB h0 N)) hl1).mono λe G ⟨v,h1,h2,h3⟩=>⟨v,h1,qI h2 N.size,vB N h3⟩
   have HS:cB (∀u W,uB w u->uB u W->gA prog 141 #[.slice m[k].a2 (yA m[k].t.Z) m[k].c2] W λe G=>∃v,e=uA v/\G.ownsRow u.1.size 98 2 v (yA m[k].t.Z) (flatK m[k].t.Z)/\uB u G):=λu W h0 N=>(ow m[k].a2 m[k].c2 m[k].t.Z W (hO2.z (vB h0 N)) hl2).mono λe G ⟨v,h1,h2,h3⟩=>⟨v,h1,qI h2 N.size,vB N h3⟩
   generalize (wr.alloc (vA #[oA m[k].t.N,lA mA m[k].t.L,.slice m[k].a1 (yA m[k].t.M) m[k].c1,.slice m[k].a2 (yA m[k].t.Z) m[k].c2] 94))=wb at *;have s1:wb.cell? ⟨w.1.size,1,aA⟩=bA (pA (bA ⟨g,0,aA⟩) (yA n) s):=L.o.cell 1;have b2:wb.cell? ⟨wr.1.size,2,aA⟩=bA (.slice m[k].a1 (yA m[k].t.M) m[k].c1):=BX.o.cell 2;go_region_law
    (refine eE (f:=140) (args:=#[.slice m[k].a1 (yA m[k].t.M) m[k].c1]) rfl (by go_simp) ?_;refine(HM.o wb _ Z.o iD.drew).mono ?_;rintro e w5 ⟨v5,rfl,b0,B⟩;obtain⟨a5,d5,rfl⟩:=YA b0;obtain⟨_,_,c25,_,b,_⟩:=EW (hC CB.o.row B) CB.o.len k r;have s15:=(L.o.z B).cell 1;have O5:=bB b0;have hsz5:=B.size;have B5:=bB B;refine⟨_,rfl,?_⟩)
   all_goals(
    have F:eB (·=g) w5 (w5.setCell ⟨g,k*4+2,aA⟩ (.slice a5 (yA m[k].t.M) d5)):=(eB.refl (·=g) w5).setCell (Ca rfl) _ _;have C6:=bB (CB.o.limits r B5.o hsb O5.o);have K:=bB (F.blk (L.o.z B5.o) (show ¬w.1.size=g by omega));have RQ6:=bB (F.blk (RQb.o.z B5.o) (show ¬w.1.size+1=g by omega));have BX6:=bB (F.blk (BX.o.z B5.o) (show ¬wr.1.size=g by omega));have Y:cB _:=(vB Z.o B5.o).trans (F.below (by omega) λi hi e=>by omega);have hs6:V.1.size<=(w5.setCell ⟨g,k*4+2,aA⟩ (.slice a5 (yA m[k].t.M) d5)).1.size:=by simp;omega
    have hw6:wr.1.size<(w5.setCell ⟨g,k*4+2,aA⟩ (.slice a5 (yA m[k].t.M) d5)).1.size:=by simp;omega
    generalize (w5.setCell ⟨g,k*4+2,aA⟩ (.slice a5 (yA m[k].t.M) d5))=w6 at *;generalize (λg=>if g<wb.1.size then T g else 2*k+1)=T6 at *)
   all_goals(
    have s1:w6.cell? ⟨w.1.size,1,aA⟩=bA (pA (bA ⟨g,0,aA⟩) (yA n) s):=K.o.cell 1;have b3:w6.cell? ⟨wr.1.size,3,aA⟩=bA (.slice m[k].a2 (yA m[k].t.Z) m[k].c2):=BX6.o.cell 3)
   all_goals go_wp2_with fail
   all_goals go_region_law
    (refine eE (f:=141) (args:=#[.slice m[k].a2 (yA m[k].t.Z) m[k].c2]) rfl (by go_simp) ?_;refine(HS.o w6 _ Y.o iD.drew).mono ?_;rintro e w7 ⟨v7,rfl,d0,C⟩;obtain⟨a7,d7,rfl⟩:=YA d0;obtain⟨_,_,_,c37,_,d⟩:=EW (hC C6.o.row C) C6.o.len k (by simpa using r);have s17:=(K.o.z C).cell 1;have O7:=bB d0;have hsz7:=C.size;have B7:=bB C;refine⟨_,rfl,?_⟩)
   all_goals(
    have F:eB (·=g) w7 (w7.setCell ⟨g,k*4+3,aA⟩ (.slice a7 (yA m[k].t.Z) d7)):=(eB.refl (·=g) w7).setCell (Ca rfl) _ _;have hk6:k<yA (m.set k ⟨m[k].t,a5,d5,m[k].a2,m[k].c2⟩):=by simpa using r
    have C8:=C6.o.series (a:=a7) (c:=d7) hk6 B7.o hs6 (by simp only[Oe];exact O7.o);simp only[Oe,List.set_set]at C8;have C8:=bB C8;have RP8:=bB (F.blk (K.o.z B7.o) (show ¬w.1.size=g by omega));have RQ8:=bB (F.blk (RQ6.o.z B7.o) (show ¬w.1.size+1=g by omega));have BW8:cB _:=(vB Y.o B7.o).trans (F.below (by omega) λi hi e=>by omega);have hs8:V.1.size<=(w7.setCell ⟨g,k*4+3,aA⟩ (.slice a7 (yA m[k].t.Z) d7)).1.size:=by simp;omega
    have HY8:cB _:=(aBf m k r ⟨m[k].t,a5,d5,a7,d7⟩ rfl).trans HY.o;generalize (w7.setCell ⟨g,k*4+3,aA⟩ (.slice a7 (yA m[k].t.Z) d7))=w8 at *
    go_wp2
    exact⟨⟨k+1,_,_,by omega,by go_num,C8.o,HY8.o,RP8.o,RQ8.o,BW8.o,hs8⟩,by simp[intOf];omega⟩)
  have ek:k=yA n:=by omega
  subst ek;have HCK:=O;have z0:wr.cell? ⟨w.1.size+1,0,aA⟩=bA (lA mA 0):=z.o.cell 0;have z1:wr.cell? ⟨w.1.size+1,1,aA⟩=bA (pA aA 0 0):=z.o.cell 1;have fz0:=z.o.free 0;have fz1:=z.o.free 1;have s0:wr.cell? ⟨w.1.size,0,aA⟩=bA (lA mA o):=P.o.cell 0;have s1:wr.cell? ⟨w.1.size,1,aA⟩=bA (pA (bA ⟨g,0,aA⟩) (yA n) s):=P.o.cell 1;go_wp2;have J:eB (·=w.1.size+1) wr ((wr.setCell ⟨w.1.size+1,0,aA⟩ (lA mA o)).setCell ⟨w.1.size+1,1,aA⟩ (pA (bA ⟨g,0,aA⟩) (yA n) s)):=((eB.refl (·=w.1.size+1) wr).setCell (Ca rfl) 0 _).setCell (Ca rfl) 1 _;refine bodyPost_ret (v:=tA #[lA mA o,pA (bA ⟨g,0,aA⟩) (yA n) s]) (by simp[results,results77,go_sem,z0,z1]) rfl ?_;have ho:cD ((wr.setCell ⟨w.1.size+1,0,aA⟩ (lA mA o)).setCell ⟨w.1.size+1,1,aA⟩ (pA (bA ⟨g,0,aA⟩) (yA n) s)) w.1.size (bA ⟨g,0,aA⟩) n:=(cD.mono (cD.turned (HCK.o.done HY.o) J (λq h1 h2 e=>by omega)) (by omega))
  have D:=((eB.of (S:=λi=>w.1.size<=i) BW.o).trans' (J.mono λi _ e=>by omega)).below (Ia _) λi hi h=>by omega
  first
   |exact⟨(bA ⟨g,0,aA⟩),⟨s,rfl⟩,ho,D⟩
   |exact⟨(bA ⟨g,0,aA⟩),s,rfl,ho,D⟩
