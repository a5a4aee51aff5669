import Derived.Test.YtiegonaogehghaaGreatDoorJ27
import Derived.Test.YtiegonaogehghaaGreatDoorJ25
set_option maxRecDepth 100000
set_option maxHeartbeats 8000000
open Bool renaming false->cA,true->dA
open Option renaming some->bA
open ByteArray renaming empty->kA
namespace Go.Proofs.YtiegonaogehghaaGreatDoor
open Go renaming World->eA
open Value renaming bool->qA,slice->pA
open Go.RowKit Tryz
theorem gc{L:mG}{b:Bool}(h:iJ L=b)(w:eA):vE 121 #[.agg #[zA L.first,zA L.last,zA L.size]] w (qA b):=h ▸ BH L w
def aMw(R:gE×mG×Nat)(a:jC)(cap:Nat):Value:=
 .tuple #[.agg #[pA a R.1.fs.length cap,zA R.1.c,zA R.1.k,zA R.1.cr,zA R.1.fl,qA R.1.dn],.agg #[zA R.2.1.first,zA R.2.1.last,zA R.2.1.size],zA R.2.2]
structure LA(w W:World)(P:Nat)(a:jC)(cap:Nat)(fs:List jB)(c k cr fl:Int)(dn:Bool)(lf ll ls:Int):Prop where
 D:gB W P #[pA a fs.length cap,zA c,zA k,zA cr,zA fl,qA dn] 35
 L:gB W (w.1.size+1) #[zA lf,zA ll,zA ls] 37
 RD:gB W (w.1.size+1+1) #[pA none 0 0,zA 0,zA 0,zA 0,zA 0,qA cA] 35
 RL:gB W (w.1.size+1+1+1) #[zA 0,zA 0,zA 0] 37
 F:rB W a fs
 B:tB w W
section
variable {w W W':eA} {P Q:Nat} {a a':jC} {cap cap':Nat} {fs fs':List jB} {c k cr fl c' k' cr' fl':Int} {dn dn':Bool} {lf ll ls:Int}
theorem LA.z(h:LA w W P a cap fs c k cr fl dn lf ll ls)(b:tB W W'):LA w W' P a cap fs c k cr fl dn lf ll ls:=⟨h.D.z b,h.L.z b,h.RD.z b,h.RL.z b,h.F.z b,vB h.B b⟩
theorem LA.cells(h:LA w W P a cap fs c k cr fl dn lf ll ls):(W.cell? (dB P 0)=bA (pA a fs.length cap)/\W.cell? (dB P 1)=bA (zA c)/\W.cell? (dB P 2)=bA (zA k)/\W.cell? (dB P 3)=bA (zA cr)/\W.cell? (dB P 4)=bA (zA fl)/\W.cell? (dB P 5)=bA (qA dn))/\(W.cell? (dB (w.1.size+1) 0)=bA (zA lf)/\W.cell? (dB (w.1.size+1) 1)=bA (zA ll)/\W.cell? (dB (w.1.size+1) 2)=bA (zA ls))/\
 (W.cell? (dB (w.1.size+1+1) 0)=bA (pA none 0 0)/\W.cell? (dB (w.1.size+1+1) 1)=bA (zA 0)/\W.cell? (dB (w.1.size+1+1) 2)=bA (zA 0)/\W.cell? (dB (w.1.size+1+1) 3)=bA (zA 0)/\W.cell? (dB (w.1.size+1+1) 4)=bA (zA 0)/\W.cell? (dB (w.1.size+1+1) 5)=bA (qA cA))/\(W.cell? (dB (w.1.size+1+1+1) 0)=bA (zA 0)/\W.cell? (dB (w.1.size+1+1+1) 1)=bA (zA 0)/\W.cell? (dB (w.1.size+1+1+1) 2)=bA (zA 0))/\
 (∀j,W.frozen? (dB P j)=cA)/\(∀j,W.frozen? (dB (w.1.size+1) j)=cA)/\(∀j,W.frozen? (dB (w.1.size+1+1) j)=cA)/\(∀j,W.frozen? (dB (w.1.size+1+1+1) j)=cA)/\w.1.size+1+1+1<W.1.size:=
 ⟨h.D.c6,h.L.c3,h.RD.c6,h.RL.c3,h.D.free,h.L.free,h.RD.free,h.RL.free,aB h.RL⟩
theorem LA.ret(h:LA w W P a cap fs c k cr fl dn lf ll ls)(f:eB (λi=>i=w.1.size+1+1\/i=w.1.size+1+1+1) W W'):rB W' a fs/\tB w W':=
 ⟨OD h.F f λb o e d=>by obtain d|d:=d;exact DO (fS h.F h.RD) e d;exact DO (GM h.F h.RL) e d,h.B.trans (f.below h.B.size λi g e=>by omega)⟩
theorem LA.put(h:LA w W w.1.size a cap fs c k cr fl dn lf ll ls)(b:rB W a' fs'):LA w ((((((W.setCell (dB w.1.size 0) (pA a' fs'.length cap')).setCell (dB w.1.size 1) (zA c')).setCell (dB w.1.size 2) (zA k')).setCell (dB w.1.size 3) (zA cr')).setCell (dB w.1.size 4) (zA fl')).setCell (dB w.1.size 5) (qA dn')) w.1.size a' cap' fs' c' k' cr' fl' dn' lf ll ls:=
 ⟨cY h.D,h.L.but (pJ _ _ _ _ _ _) (by omega),h.RD.but (pJ _ _ _ _ _ _) (by omega),h.RL.but (pJ _ _ _ _ _ _) (by omega),b.apart (fS b h.D) (pJ _ _ _ _ _ _),h.B.trans ((eB.but (pJ _ _ _ _ _ _)).below h.B.size λi d e=>by omega)⟩
theorem LA.putP(h:LA w W P a cap fs c k cr fl dn lf ll ls)(d:w.1.size+1+1+1<P)(b:rB W a' fs'):LA w ((((((W.setCell (dB P 0) (pA a' fs'.length cap')).setCell (dB P 1) (zA c')).setCell (dB P 2) (zA k')).setCell (dB P 3) (zA cr')).setCell (dB P 4) (zA fl')).setCell (dB P 5) (qA dn')) P a' cap' fs' c' k' cr' fl' dn' lf ll ls:=
 ⟨cY h.D,h.L.but (pJ _ _ _ _ _ _) (by omega),h.RD.but (pJ _ _ _ _ _ _) (by omega),h.RL.but (pJ _ _ _ _ _ _) (by omega),b.apart (fS b h.D) (pJ _ _ _ _ _ _),h.B.trans ((eB.but (pJ _ _ _ _ _ _)).below h.B.size λi f e=>by omega)⟩
theorem LA.log(h:LA w W P a cap fs c k cr fl dn lf ll ls)(j:P≠w.1.size+1)(b:pD (w.1.size+1) W W'){d f:Int}(g:gB W' (w.1.size+1) #[zA lf,zA d,zA f] 37):LA w W' P a cap fs c k cr fl dn lf d f:=
 ⟨h.D.but b j,g,h.RD.but b (by omega),h.RL.but b (by omega),h.F.apart (GM h.F h.L) b,h.B.trans ((eB.but b).below h.B.size λi l e=>by omega)⟩
end
theorem jm(a:jC)(cap:Nat)(fs:List jB)(c k cr fl:Int)(dn:Bool)(lf ll ls:Int)(p:nB)(d:Int)(w:eA)(Q:rB w a fs)(m:JE fs)(h:p.size<=1900000):
 Calls prog 117 #[.agg #[pA a fs.length cap,zA c,zA k,zA cr,zA fl,qA dn],.agg #[zA lf,zA ll,zA ls],.string p,zA d] w λe l=>
  ∃a' cap',e=.returned (aMw (pE ⟨fs,c,k,cr,fl,dn⟩ ⟨lf,ll,ls⟩ p d) a' cap')/\rB l a' (pE ⟨fs,c,k,cr,fl,dn⟩ ⟨lf,ll,ls⟩ p d).1.fs/\tB w l:=by
 obtain⟨R,O⟩:∃R,pE ⟨fs,c,k,cr,fl,dn⟩ ⟨lf,ll,ls⟩ p d=R:=⟨_,rfl⟩
 rw[O];have HF:=cB Q;have HFIT:=cB m;have U:bB (p.size<=maxLen):=by show _<=_;unfold maxLen;omega
 have I:=m.len;have h:(mF p).size<=60008:=by
  unfold mF;split;rw[Ka,Ka,kB,kB];omega;simp
 obtain⟨F,o⟩:∃F,mF p=F:=⟨_,rfl⟩
 rw[o]at h;have HR0:=cB (λh1 h2 h3 h B x=>O ▸ @lj ⟨fs,c,k,cr,fl,dn⟩ B ⟨lf,ll,ls⟩ p F d x o h1 h2 h3 h);have G:((iJ ⟨lf,ll,ls⟩=cA\/iJ ⟨lf,ll,ls⟩=dA/\zB d 1 1000000000=cA)/\R=(⟨fs,c,k,cr,fl,dn⟩,⟨lf,ll,ls⟩,21)\/iJ ⟨lf,ll,ls⟩=dA/\zB d 1 1000000000=dA/\F.toList.isEmpty=dA/\R=(⟨fs,c,k,cr,fl,dn⟩,⟨lf,ll,ls⟩,22))\/
  iJ ⟨lf,ll,ls⟩=dA/\zB d 1 1000000000=dA/\F.toList.isEmpty=cA/\¬(iJ ⟨lf,ll,ls⟩ &&zB d 1 1000000000)=cA/\¬mF p=kA/\((ls≠0/\d<ls+F.size)->ll=999999->R=(⟨fs,c,k,cr,fl,dn⟩,⟨lf,ll,ls⟩,23))/\(¬(ls≠0/\d<ls+F.size)->R=xH ⟨fs,c,k,cr,fl,dn⟩ ⟨lf,ll,ls⟩ F):=by
  rw[<-O];unfold pE;rw[o];cases hlb:iJ ⟨lf,ll,ls⟩<;>cases hmb:zB d 1 1000000000<;>simp
  by_cases B:F=kA
  .exact Ca ⟨by simpa using tp.2 B,by simp[B]⟩
  exact La ⟨by simpa using sV.2 B,B,λh1 h2 h3=>by simp[B,h1,h2,h3],λh=>by rw[Ja B,Ja (by intro x;have:=h x.1;omega)]⟩
 have J:=cB G;clear Q m G O;go_enter func117,ntmps117;go_wp2_with fail;apply hC (SH p _ U.o);intro w1 Q;rw[o]at *;obtain⟨Y,hL,U,G,m⟩:=GZ Q;obtain⟨a1,j,W2,o,W,n,Z⟩:=ND w1 a cap fs (HF.o.z m) I;have B:=cB o;have O:=cB W;have A:=cB (LA.z ⟨Y,hL,U,G,HF.o.z m,m⟩ n);obtain⟨x0,-⟩:=Y.c6;have f:=aB G;have hn3:w.1.size<w1.1.size:=by omega
 clear Q Y hL U G m o W n Z;obtain⟨⟨I,-⟩,-,-,-,o,-⟩:=A.o.cells;go_upto_region 2 with fail;go_cut [11] (λm wx=>m=.string F/\∃a1 j,LA w wx w.1.size a1 j fs c k cr fl dn lf ll ls)
 case first=>
  go_wp2_with(at_builtin;refine Lib.wpList_append_run _ rfl _ _ _ _ rfl _ _ rfl rfl _ _ B.o ?_);go_meet;have m:pD w.1.size W2 (W2.setCell (dB w.1.size 0) (pA a1 fs.length j)):=(pD.refl _ _).setCell 0 _;have h0:=A.o.D.set 0 (pA a1 fs.length j);exact⟨rfl,a1,j,by simpa using h0,A.o.L.but m (by omega),A.o.RD.but m (by omega),A.o.RL.but m (by omega),O.o.apart (fS O.o A.o.D) m,A.o.B.setCell (Ia _) _⟩
 clear A I o x0 f hn3 B O;obtain⟨rfl,a1,j,hA⟩:=hcut;rename eA=>w2;have A:=cB hA;clear hA;obtain⟨⟨I,N,O,S,T,U⟩,⟨X,Y,Z⟩,⟨q,r,s,t,u,y⟩,⟨z,C,G⟩,B,Q,W,yx,f⟩:=A.o.cells;obtain m|⟨hlb,hmb,o,o,hNE,h23,hT⟩:=J.o
 .rcases m with⟨h1|⟨h1,h2⟩,E⟩|⟨h1,h2,h3,E⟩
  all_goals
   have E:=cB E;clear HR0 J;go_wp2_with(first
    |(go_at_call 121;refine hC (gc (L:=⟨lf,ll,ls⟩) (by assumption) _) ?_;intro w3 i;replace A:=cB (A.o.z i);clear i I N O S T U X Y Z q r s t u y z C G B Q W yx f;obtain⟨⟨I,N,O,S,T,U⟩,⟨X,Y,Z⟩,⟨q,r,s,t,u,y⟩,⟨z,C,G⟩,B,Q,W,yx,f⟩:=A.o.cells)
    |(go_at_call 90;refine cO (xD (by assumption) _) ?_))
   go_region
   go_wp2;refine bodyPost_ret (v:=?_) (by simp[results,results117,go_sem,q,r,s,t,u,y,z,C,G];rfl) rfl ?_;rw[E.o];refine⟨a1,j,rfl,A.o.ret ?_⟩;repeat (first|with_reducible exact eB.refl _ _|with_reducible refine eB.drew ?_|with_reducible refine eB.setCell ?_ (Ca (by simp)) _ _)
 have HN:=cB (⟨o,hNE,h23,hT⟩:_/\_/\_/\_);have m:=hlb;simp only[iJ,zB,Sa,Ab]at m;obtain⟨⟨⟨hl1,hl2⟩,-⟩,hl3,hl4⟩:=m;obtain⟨m,m⟩:1<=d/\d<=1000000000:=by simpa[zB]using hmb
 clear J o hNE h23 hT;go_upto_region 7 with(first
  |(go_at_call 121;refine hC (gc (L:=⟨lf,ll,ls⟩) (by assumption) _) ?_;intro w3 i;replace A:=cB (A.o.z i);clear I N O S T U X Y Z q r s t u y z C G B Q W yx f i;obtain⟨⟨I,N,O,S,T,U⟩,⟨X,Y,Z⟩,⟨q,r,s,t,u,y⟩,⟨z,C,G⟩,B,Q,W,yx,f⟩:=A.o.cells)
  |(go_at_call 90;refine cO (xD (by assumption) _) ?_))
 go_cut [48] (λm wx=>m=qA (decide (ls≠0/\d<ls+F.size))/\wx=w3)
 case first=>
  have h3:(ls==0)=dA/\(ls != 0)=cA/\decide (ls≠0/\d<ls+F.size)=cA\/(ls==0)=cA/\(ls != 0)=dA/\(d<ls+F.size/\decide (ls≠0/\d<ls+F.size)=dA\/¬d<ls+F.size/\decide (ls≠0/\d<ls+F.size)=cA):=by
   by_cases h0:ls=0
   .left;simp[h0]
   right;by_cases m:d<ls+F.size<;>simp[h0,m]
  obtain⟨x1,x2,m⟩|⟨x1,x2,⟨x3,m⟩|⟨x3,m⟩⟩:=h3
  all_goals
   have m:=cB m;go_wp2;go_meet;exact⟨by rw[m.o],rfl⟩
 obtain⟨rfl,m⟩:=hcut;subst m;rename eA=>w3;clear I N O S T U X Y Z q r s t u y z C G B Q W yx f;go_upto_if 48 with fail;go_cut [12,13] (λ_ _ wx=>∃(fs9:List jB)(c9 k9 cr9 fl9:Int)(dn9:Bool)(g o:Int)(a9:jC)(cap9:Nat),LA w wx w.1.size a9 cap9 fs9 c9 k9 cr9 fl9 dn9 lf g o/\JE fs9/\1<=g/\g<=999999/\0<=o/\o<=1000000000/\bB (R=xH ⟨fs9,c9,k9,cr9,fl9,dn9⟩ ⟨lf,g,o⟩ F))
 case first=>
  by_cases hb:ls≠0/\d<ls+F.size
  .have HBT:=cB hb;rw[Ac hb];clear hb;obtain⟨⟨I,N,O,S,T,U⟩,⟨X,Y,Z⟩,⟨q,r,s,t,u,y⟩,⟨z,C,G⟩,B,Q,W,yx,f⟩:=A.o.cells;by_cases J:ll=999999
   .have E:=cB (HN.o.2.2.1 HBT.o J);have m:(ll==999999)=dA:=by simpa using J
    clear J;go_wp2_with fail;go_region
    go_wp2;refine bodyPost_ret (v:=?_) (by simp[results,results117,go_sem,q,r,s,t,u,y,z,C,G];rfl) rfl ?_;rw[E.o];refine⟨_,_,rfl,A.o.ret ?_⟩;repeat (first|with_reducible exact eB.refl _ _|with_reducible refine eB.drew ?_|with_reducible refine eB.setCell ?_ (Ca (by simp)) _ _)
   have m:(ll==999999)=cA:=by simpa using J
   have hl5:ll+1<=999999:=by omega
   have m:IntKind.i64.wrap (ll+1)=ll+1:=by rw[IntKind.wrap_i64];omega
   obtain⟨fs1,c1,k1,cr1,fl1,dn1,H,hst,m,hs1⟩:=MF (D:=⟨fs,c,k,cr,fl,dn⟩) (op:=vG (ll+1)) HFIT.o (by have:=zN (ll+1);unfold maxLen;show(gK (ll+1)).size<=_;omega) (by show(0:Nat)<=_;omega) (by show(0:Nat)<=_;omega);have EN:=cB (HR0.o HN.o.1 HN.o.2.1 HBT.o J _ _ hst);have HFIT1:=cB m;have HST1:bB (aY _ ⟨1,gK (ll+1),⟨#[]⟩,⟨#[]⟩,0⟩ _ _):=hs1;clear hst m hs1 J I N O S T U X Y Z q r s t u y z C G B Q W yx f;obtain⟨⟨I,N,O,S,T,U⟩,⟨X,Y,Z⟩,⟨q,r,s,t,u,y⟩,⟨z,C,G⟩,B,Q,W,yx,f⟩:=A.o.cells;clear q r s t u y z C G W yx;go_upto_region 10 with fail;go_cut [12,13] (λsa sb wx=>∃P,sa=.pointer (pB P)/\sb=zA (H:Nat)/\PX w3 P fs1 c1 k1 cr1 fl1 dn1 wx)
   case first=>
    have K:=cB (λl(h:tB w3 l)=>(⟨(A.o.D.z h).c6,(A.o.L.z h).c3⟩:_/\_));go_region_held3 (λl=>(l.cell? (dB w.1.size 0)=bA (pA a1 fs.length j)/\l.cell? (dB w.1.size 1)=bA (zA c)/\l.cell? (dB w.1.size 2)=bA (zA k)/\l.cell? (dB w.1.size 3)=bA (zA cr)/\l.cell? (dB w.1.size 4)=bA (zA fl)/\l.cell? (dB w.1.size 5)=bA (qA dn))/\l.cell? (dB (w.1.size+1) 0)=bA (zA lf)/\l.cell? (dB (w.1.size+1) 1)=bA (zA ll)/\l.cell? (dB (w.1.size+1) 2)=bA (zA ls))
     (first|go_keep|with_reducible exact K.o _ (aAb m (Ia _))|with_reducible exact K.o _ (aAb m V.size)|with_reducible exact K.o _ m|with_reducible exact K.o _ V|with_reducible exact K.o _ (vB V yB)|with_reducible exact K.o _ (yB.drew)|with_reducible exact K.o _ (vB m yB))
     (first
     |(go_at_call 106;apply hC (zQ _ _);intro v2 n;have V:tB w3 v2:=(by first|with_reducible exact vB bD.drew n|with_reducible exact vB (yB.drew) n);have c2:=K.o _ V;(first|(have hz:=iL n)|skip))
     |(go_at_call 42;refine(HST1.o _ _ _ (A.o.F.z (by first|with_reducible exact V|with_reducible exact vB V yB))).mono ?_;rintro e v3 ⟨a2,cap2,rfl,how,i⟩;have J:=cB how;have m:tB w3 v3:=(by first|with_reducible exact vB V i|with_reducible exact vB (vB V yB) i);have c3:=K.o _ m;(first|(have hz:=hz.z i)|(have hz:gB _ v2.1.size _ _:=jO i)|skip);(try (obtain⟨q0,q1,q2,q3,q4,q5⟩:=hz.c6;have b:=hz.free))))
    all_goals(go_wp2_with fail;go_meet)
    all_goals first
     |with_reducible exact⟨_,rfl,rfl,pg J.o m⟩
     |exact⟨_,rfl,rfl,pj J.o m (by first|exact Ia _|exact V.size) hz⟩
   obtain⟨P,rfl,rfl,a2,cap2,hP,hPB,hf2,hb4⟩:=hcut;rename eA=>w4;replace A:=cB (A.o.z hb4);have hN3:w.1.size+1+1+1<P:=by omega
   have F4:=cB hf2;clear I N O S T U X Y Z B Q f;obtain⟨⟨I,N,O,S,T,U⟩,⟨X,Y,Z⟩,⟨q,r,s,t,u,y⟩,⟨z,C,G⟩,B,Q,W,yx,f⟩:=A.o.cells;obtain⟨x0,x1,x2,x3,x4,x5⟩:=hPB.c6;clear hPB hf2 hb4;go_upto_region 11 with fail;go_cut [] (λwx=>LA w wx w.1.size a2 cap2 fs1 c1 k1 cr1 fl1 dn1 lf ll ls)
   case first=>
    go_wp2_with fail;go_meet;exact A.o.put F4.o
   rename eA=>w5;replace A:=cB hcut;clear hcut x0 x1 x2 x3 x4 x5 F4 I N O S T U X Y Z q r s t u y z C G B Q W yx f;obtain⟨⟨I,N,O,S,T,U⟩,⟨X,Y,Z⟩,⟨q,r,s,t,u,y⟩,⟨z,C,G⟩,B,Q,W,yx,f⟩:=A.o.cells;by_cases hc:H=0
   .have hcb:((H:Int) != 0)=cA:=by simp[hc]
    have E:bB (R=xH ⟨fs1,c1,k1,cr1,fl1,dn1⟩ ⟨lf,ll+1,0⟩ F):=by show _=_;rw[EN.o,Ja (by simp[hc])]
    clear hc;go_wp2_with fail;go_meet;have hLn:=(A.o.L.set 1 (zA (ll+1))).set 2 (zA 0);exact⟨fs1,c1,k1,cr1,fl1,dn1,ll+1,0,a2,cap2,A.o.log (by omega) (((pD.refl _ _).setCell 1 _).setCell 2 _) (by simpa using hLn),HFIT1.o,by omega,hl5,by omega,by omega,E⟩
   have hcb:((H:Int) != 0)=dA:=by simpa using hc
   have E:bB (R=(⟨fs1,c1,k1,cr1,fl1,dn1⟩,⟨lf,ll,ls⟩,H)):=by show _=_;rw[EN.o,Ma hc]
   clear hc;go_wp2_with fail;go_region
   go_wp2;refine bodyPost_ret (v:=?_) (by simp[results,results117,go_sem,q,r,s,t,u,y,z,C,G];rfl) rfl ?_;rw[E.o];refine⟨_,_,rfl,A.o.ret ?_⟩;repeat (first|with_reducible exact eB.refl _ _|with_reducible refine eB.drew ?_|with_reducible refine eB.setCell ?_ (Ca (by simp)) _ _)
  have E:=cB (HN.o.2.2.2 hb);rw[Ub hb];clear hb;go_wp2_with fail;go_meet;exact⟨fs,c,k,cr,fl,dn,ll,ls,a1,j,A.o,HFIT.o,hl1,hl2,hl3,hl4,E⟩
 clear A HFIT;obtain⟨fs9,c9,k9,cr9,fl9,dn9,g,o,a9,cap9,hA,hfit9,h91,h92,h93,h94,E9⟩:=hcut;rename eA=>w9;have A:=cB hA;obtain⟨fs6,c6,k6,cr6,fl6,dn6,M,hst,hfit6,hs6⟩:=MF (D:=⟨fs9,c9,k9,cr9,fl9,dn9⟩) (op:=kI g F) hfit9 (by have:=zN (g);unfold maxLen;show(gK (g)).size<=_;omega) (by show(0:Nat)<=_;omega) (by show F.size<=_;omega);have HST6:bB (aY _ ⟨2,gK g,⟨#[]⟩,F,0⟩ _ _):=hs6;have HS6:=cB hst;have HFIT6:=cB hfit6;clear hst hfit6 hs6 hA hfit9 HR0 HN;obtain⟨⟨I,N,O,S,T,U⟩,⟨X,Y,Z⟩,⟨q,r,s,t,u,y⟩,⟨z,C,G⟩,B,Q,W,yx,f⟩:=A.o.cells;clear q r s t u y z C G W yx;go_upto_region 16 with fail;go_cut [14,15] (λsa sb wx=>∃P,sa=.pointer (pB P)/\sb=zA (M:Nat)/\PX w9 P fs6 c6 k6 cr6 fl6 dn6 wx)
 case first=>
  have K:=cB (λl(h:tB w9 l)=>(⟨(A.o.D.z h).c6,(A.o.L.z h).c3⟩:_/\_));go_region_held3 (λl=>(l.cell? (dB w.1.size 0)=bA (pA a9 fs9.length cap9)/\l.cell? (dB w.1.size 1)=bA (zA c9)/\l.cell? (dB w.1.size 2)=bA (zA k9)/\l.cell? (dB w.1.size 3)=bA (zA cr9)/\l.cell? (dB w.1.size 4)=bA (zA fl9)/\l.cell? (dB w.1.size 5)=bA (qA dn9))/\l.cell? (dB (w.1.size+1) 0)=bA (zA lf)/\l.cell? (dB (w.1.size+1) 1)=bA (zA g)/\l.cell? (dB (w.1.size+1) 2)=bA (zA o))
   (first|go_keep|with_reducible exact K.o _ (aAb m (Ia _))|with_reducible exact K.o _ (aAb m V.size)|with_reducible exact K.o _ m|with_reducible exact K.o _ V|with_reducible exact K.o _ (vB V yB)|with_reducible exact K.o _ (yB.drew)|with_reducible exact K.o _ (vB m yB))
   (first
   |(go_at_call 106;apply hC (zQ _ _);intro v2 n;have V:tB w9 v2:=(by first|with_reducible exact vB bD.drew n|with_reducible exact vB (yB.drew) n);have c2:=K.o _ V;(first|(have hz:=iL n)|skip))
   |(go_at_call 42;refine(HST6.o _ _ _ (A.o.F.z (by first|with_reducible exact V|with_reducible exact vB V yB))).mono ?_;rintro e v3 ⟨a2,cap2,rfl,how,i⟩;have J:=cB how;have m:tB w9 v3:=(by first|with_reducible exact vB V i|with_reducible exact vB (vB V yB) i);have c3:=K.o _ m;(first|(have hz:=hz.z i)|(have hz:gB _ v2.1.size _ _:=jO i)|skip);(try (obtain⟨q0,q1,q2,q3,q4,q5⟩:=hz.c6;have b:=hz.free))))
  all_goals(go_wp2_with fail;go_meet)
  all_goals first
   |with_reducible exact⟨_,rfl,rfl,pg J.o m⟩
   |exact⟨_,rfl,rfl,pj J.o m (by first|exact Ia _|exact V.size) hz⟩
 obtain⟨P,rfl,rfl,a6,m,hP,hPB,hf6,h⟩:=hcut;rename eA=>w10;have hN3:w.1.size+1+1+1<P:=by omega
 have hA:LA w w10 P a6 m fs6 c6 k6 cr6 fl6 dn6 lf g o:=⟨hPB,A.o.L.z h,A.o.RD.z h,A.o.RL.z h,hf6,vB A.o.B h⟩
 replace A:=cB hA;clear hA hPB hf6 h I N O S T U X Y Z B Q f;obtain⟨⟨I,N,O,S,T,U⟩,⟨X,Y,Z⟩,⟨q,r,s,t,u,y⟩,⟨z,C,G⟩,B,Q,W,yx,f⟩:=A.o.cells;by_cases hc:M=0
 .have hcb:((M:Int) != 0)=cA:=by simp[hc]
  obtain⟨fs7,c7,k7,cr7,fl7,dn7,m,hst,-,h⟩:=MF (D:=⟨fs6,c6,k6,cr6,fl6,dn6⟩) (op:=uS g) HFIT6.o (by have:=zN (g);unfold maxLen;show(gK (g)).size<=_;omega) (by show(0:Nat)<=_;omega) (by show(0:Nat)<=_;omega);have HST7:bB (aY _ ⟨3,gK g,⟨#[]⟩,⟨#[]⟩,0⟩ _ _):=h;have ET:=cB (E9.o.trans (aW HS6.o hc hst));clear hc hst h;go_upto_region 19 with fail;go_cut [15] (λsb wx=>sb=zA (m:Nat)/\∃a7 h,LA w wx P a7 h fs7 c7 k7 cr7 fl7 dn7 lf g o)
  case first=>
   go_region_with (first
    |(go_at_call 106;apply hC (zQ _ _);intro v2 n;have A2:=cB (A.o.z (vB bD.drew n));obtain⟨⟨x0,x1,x2,x3,x4,x5⟩,-⟩:=A2.o.cells)
    |(go_at_call 42;refine(HST7.o _ _ _ A2.o.F).mono ?_;rintro e v3 ⟨a7,h,rfl,how,i⟩;have J:=cB how;have A3:=cB (A2.o.z i);obtain⟨⟨q0,q1,q2,q3,q4,q5⟩,-,-,-,b,-⟩:=A3.o.cells))
   all_goals
    go_wp2_with fail;go_meet;exact⟨rfl,a7,h,A3.o.putP (by omega) J.o⟩
  obtain⟨rfl,a7,h,hA⟩:=hcut;rename eA=>J;replace A:=cB hA;clear hA I N O S T U X Y Z q r s t u y z C G B Q W yx f;obtain⟨⟨I,N,O,S,T,U⟩,⟨X,Y,Z⟩,⟨q,r,s,t,u,y⟩,⟨z,C,G⟩,B,Q,W,yx,f⟩:=A.o.cells;by_cases J:m=0
  .have hcb7:((m:Int)==0)=dA:=by simp[J]
   have E:bB (R=(⟨fs7,c7,k7,cr7,fl7,dn7⟩,⟨lf,g,o+F.size⟩,m)):=by show _=_;rw[ET.o,Ja (by simp[J]),J]
   clear J;go_upto_region 21 with fail;go_cut [] (λwx=>LA w wx P a7 h fs7 c7 k7 cr7 fl7 dn7 lf g (o+F.size))
   case first=>
    go_wp2_with fail;go_meet;have hLn:=A.o.L.set 2 (zA (o+F.size));exact A.o.log (by omega) ((pD.refl _ _).setCell 2 _) (by simpa using hLn)
   rename eA=>h;replace A:=cB hcut;clear hcut I N O S T U X Y Z q r s t u y z C G B Q W yx f;obtain⟨⟨I,N,O,S,T,U⟩,⟨X,Y,Z⟩,⟨q,r,s,t,u,y⟩,⟨z,C,G⟩,B,Q,W,yx,f⟩:=A.o.cells;go_wp2_with fail;go_region
   go_wp2;refine bodyPost_ret (v:=?_) (by simp[results,results117,go_sem,q,r,s,t,u,y,z,C,G];rfl) rfl ?_;rw[E.o];refine⟨_,_,rfl,A.o.ret ?_⟩;repeat (first|with_reducible exact eB.refl _ _|with_reducible refine eB.drew ?_|with_reducible refine eB.setCell ?_ (Ca (by simp)) _ _)
  have hcb7:((m:Int)==0)=cA:=by simpa using J
  have E:bB (R=(⟨fs7,c7,k7,cr7,fl7,dn7⟩,⟨lf,g,o⟩,m)):=by show _=_;rw[ET.o,Ma J]
  clear J;go_wp2_with fail;go_region
  go_wp2;refine bodyPost_ret (v:=?_) (by simp[results,results117,go_sem,q,r,s,t,u,y,z,C,G];rfl) rfl ?_;rw[E.o];refine⟨_,_,rfl,A.o.ret ?_⟩;repeat (first|with_reducible exact eB.refl _ _|with_reducible refine eB.drew ?_|with_reducible refine eB.setCell ?_ (Ca (by simp)) _ _)
 have hcb:((M:Int) != 0)=dA:=by simpa using hc
 have E:=cB (E9.o.trans (zV HS6.o hc));clear hc;go_wp2_with fail;go_region
 go_wp2;refine bodyPost_ret (v:=?_) (by simp[results,results117,go_sem,q,r,s,t,u,y,z,C,G];rfl) rfl ?_;rw[E.o];refine⟨_,_,rfl,A.o.ret ?_⟩;repeat (first|with_reducible exact eB.refl _ _|with_reducible refine eB.drew ?_|with_reducible refine eB.setCell ?_ (Ca (by simp)) _ _)
