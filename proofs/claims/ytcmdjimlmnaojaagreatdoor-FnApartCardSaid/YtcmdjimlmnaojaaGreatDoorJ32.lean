import Derived.Test.YtcmdjimlmnaojaaGreatDoorJ27
import Derived.Test.YtcmdjimlmnaojaaGreatDoorJ25
set_option maxRecDepth 100000
set_option maxHeartbeats 8000000
open Bool renaming false->dA,true->eA
open Option renaming some->cA
open ByteArray renaming empty->lA
namespace Go.Proofs.YtcmdjimlmnaojaaGreatDoor
open Go renaming World->fA
open Value renaming bool->sA,slice->qA
open Go.RowKit Tryz
theorem gh{L:jG}{b:Bool}(h:bJ L=b)(w:fA):cF 113 #[.agg #[aB L.first,aB L.last,aB L.size]] w (sA b):=h ▸ BH L w
def aMu(R:xD×jG×Nat)(a:nC)(cap:Nat):Value:=
 .tuple #[.agg #[qA a R.1.fs.length cap,aB R.1.c,aB R.1.k,aB R.1.cr,aB R.1.fl,sA R.1.dn],.agg #[aB R.2.1.first,aB R.2.1.last,aB R.2.1.size],aB R.2.2]
structure LA(w W:World)(P:Nat)(a:nC)(cap:Nat)(fs:List iB)(c k cr fl:Int)(dn:Bool)(lf ll ls:Int):Prop where
 D:jB W P #[qA a fs.length cap,aB c,aB k,aB cr,aB fl,sA dn] 35
 L:jB W (w.1.size+1) #[aB lf,aB ll,aB ls] 37
 RD:jB W (w.1.size+1+1) #[qA none 0 0,aB 0,aB 0,aB 0,aB 0,sA dA] 35
 RL:jB W (w.1.size+1+1+1) #[aB 0,aB 0,aB 0] 37
 F:uB W a fs
 B:xB w W
section
variable {w W W':fA} {P Q:Nat} {a a':nC} {cap cap':Nat} {fs fs':List iB} {c k cr fl c' k' cr' fl':Int} {dn dn':Bool} {lf ll ls:Int}
theorem LA.z(h:LA w W P a cap fs c k cr fl dn lf ll ls)(b:xB W W'):LA w W' P a cap fs c k cr fl dn lf ll ls:=⟨h.D.z b,h.L.z b,h.RD.z b,h.RL.z b,h.F.z b,aC h.B b⟩
theorem LA.cells(h:LA w W P a cap fs c k cr fl dn lf ll ls):(W.cell? (eB P 0)=cA (qA a fs.length cap)/\W.cell? (eB P 1)=cA (aB c)/\W.cell? (eB P 2)=cA (aB k)/\W.cell? (eB P 3)=cA (aB cr)/\W.cell? (eB P 4)=cA (aB fl)/\W.cell? (eB P 5)=cA (sA dn))/\(W.cell? (eB (w.1.size+1) 0)=cA (aB lf)/\W.cell? (eB (w.1.size+1) 1)=cA (aB ll)/\W.cell? (eB (w.1.size+1) 2)=cA (aB ls))/\
 (W.cell? (eB (w.1.size+1+1) 0)=cA (qA none 0 0)/\W.cell? (eB (w.1.size+1+1) 1)=cA (aB 0)/\W.cell? (eB (w.1.size+1+1) 2)=cA (aB 0)/\W.cell? (eB (w.1.size+1+1) 3)=cA (aB 0)/\W.cell? (eB (w.1.size+1+1) 4)=cA (aB 0)/\W.cell? (eB (w.1.size+1+1) 5)=cA (sA dA))/\(W.cell? (eB (w.1.size+1+1+1) 0)=cA (aB 0)/\W.cell? (eB (w.1.size+1+1+1) 1)=cA (aB 0)/\W.cell? (eB (w.1.size+1+1+1) 2)=cA (aB 0))/\
 (∀j,W.frozen? (eB P j)=dA)/\(∀j,W.frozen? (eB (w.1.size+1) j)=dA)/\(∀j,W.frozen? (eB (w.1.size+1+1) j)=dA)/\(∀j,W.frozen? (eB (w.1.size+1+1+1) j)=dA)/\w.1.size+1+1+1<W.1.size:=
 ⟨h.D.c6,h.L.c3,h.RD.c6,h.RL.c3,h.D.free,h.L.free,h.RD.free,h.RL.free,bB h.RL⟩
theorem LA.ret(h:LA w W P a cap fs c k cr fl dn lf ll ls)(f:fB (λi=>i=w.1.size+1+1\/i=w.1.size+1+1+1) W W'):uB W' a fs/\xB w W':=
 ⟨OL h.F f λb o e d=>by obtain d|d:=d;exact DS (kS h.F h.RD) e d;exact DS (GV h.F h.RL) e d,h.B.trans (f.below h.B.size λi g e=>by omega)⟩
theorem LA.put(h:LA w W w.1.size a cap fs c k cr fl dn lf ll ls)(b:uB W a' fs'):LA w ((((((W.setCell (eB w.1.size 0) (qA a' fs'.length cap')).setCell (eB w.1.size 1) (aB c')).setCell (eB w.1.size 2) (aB k')).setCell (eB w.1.size 3) (aB cr')).setCell (eB w.1.size 4) (aB fl')).setCell (eB w.1.size 5) (sA dn')) w.1.size a' cap' fs' c' k' cr' fl' dn' lf ll ls:=
 ⟨gY h.D,h.L.but (xJ _ _ _ _ _ _) (by omega),h.RD.but (xJ _ _ _ _ _ _) (by omega),h.RL.but (xJ _ _ _ _ _ _) (by omega),b.apart (kS b h.D) (xJ _ _ _ _ _ _),h.B.trans ((fB.but (xJ _ _ _ _ _ _)).below h.B.size λi d e=>by omega)⟩
theorem LA.putP(h:LA w W P a cap fs c k cr fl dn lf ll ls)(d:w.1.size+1+1+1<P)(b:uB W a' fs'):LA w ((((((W.setCell (eB P 0) (qA a' fs'.length cap')).setCell (eB P 1) (aB c')).setCell (eB P 2) (aB k')).setCell (eB P 3) (aB cr')).setCell (eB P 4) (aB fl')).setCell (eB P 5) (sA dn')) P a' cap' fs' c' k' cr' fl' dn' lf ll ls:=
 ⟨gY h.D,h.L.but (xJ _ _ _ _ _ _) (by omega),h.RD.but (xJ _ _ _ _ _ _) (by omega),h.RL.but (xJ _ _ _ _ _ _) (by omega),b.apart (kS b h.D) (xJ _ _ _ _ _ _),h.B.trans ((fB.but (xJ _ _ _ _ _ _)).below h.B.size λi f e=>by omega)⟩
theorem LA.log(h:LA w W P a cap fs c k cr fl dn lf ll ls)(j:P≠w.1.size+1)(b:sD (w.1.size+1) W W'){d f:Int}(g:jB W' (w.1.size+1) #[aB lf,aB d,aB f] 37):LA w W' P a cap fs c k cr fl dn lf d f:=
 ⟨h.D.but b j,g,h.RD.but b (by omega),h.RL.but b (by omega),h.F.apart (GV h.F h.L) b,h.B.trans ((fB.but b).below h.B.size λi l e=>by omega)⟩
end
theorem jr(a:nC)(cap:Nat)(fs:List iB)(c k cr fl:Int)(dn:Bool)(lf ll ls:Int)(p:pB)(d:Int)(w:fA)(Q:uB w a fs)(m:JK fs)(h:p.size<=1900000):
 Calls prog 109 #[.agg #[qA a fs.length cap,aB c,aB k,aB cr,aB fl,sA dn],.agg #[aB lf,aB ll,aB ls],.string p,aB d] w λe l=>
  ∃a' cap',e=.returned (aMu (qE ⟨fs,c,k,cr,fl,dn⟩ ⟨lf,ll,ls⟩ p d) a' cap')/\uB l a' (qE ⟨fs,c,k,cr,fl,dn⟩ ⟨lf,ll,ls⟩ p d).1.fs/\xB w l:=by
 obtain⟨R,O⟩:∃R,qE ⟨fs,c,k,cr,fl,dn⟩ ⟨lf,ll,ls⟩ p d=R:=⟨_,rfl⟩
 rw[O];have HF:=dB Q;have HFIT:=dB m;have W:cB (p.size<=maxLen):=by show _<=_;unfold maxLen;omega
 have I:=m.len;have h:(dF p).size<=60008:=by
  unfold dF;split;rw[Ka,Ka,nB,nB];omega;simp
 obtain⟨F,o⟩:∃F,dF p=F:=⟨_,rfl⟩
 rw[o]at h;have HR0:=dB (λh1 h2 h3 h B x=>O ▸ @lq ⟨fs,c,k,cr,fl,dn⟩ B ⟨lf,ll,ls⟩ p F d x o h1 h2 h3 h);have G:((bJ ⟨lf,ll,ls⟩=dA\/bJ ⟨lf,ll,ls⟩=eA/\yB d 1 1000000000=dA)/\R=(⟨fs,c,k,cr,fl,dn⟩,⟨lf,ll,ls⟩,21)\/bJ ⟨lf,ll,ls⟩=eA/\yB d 1 1000000000=eA/\F.toList.isEmpty=eA/\R=(⟨fs,c,k,cr,fl,dn⟩,⟨lf,ll,ls⟩,22))\/
  bJ ⟨lf,ll,ls⟩=eA/\yB d 1 1000000000=eA/\F.toList.isEmpty=dA/\¬(bJ ⟨lf,ll,ls⟩ &&yB d 1 1000000000)=dA/\¬dF p=lA/\((ls≠0/\d<ls+F.size)->ll=999999->R=(⟨fs,c,k,cr,fl,dn⟩,⟨lf,ll,ls⟩,23))/\(¬(ls≠0/\d<ls+F.size)->R=mH ⟨fs,c,k,cr,fl,dn⟩ ⟨lf,ll,ls⟩ F):=by
  rw[<-O];unfold qE;rw[o];cases hlb:bJ ⟨lf,ll,ls⟩<;>cases hmb:yB d 1 1000000000<;>simp
  by_cases B:F=lA
  .exact Ca ⟨by simpa using tt.2 B,by simp[B]⟩
  exact La ⟨by simpa using rV.2 B,B,λh1 h2 h3=>by simp[B,h1,h2,h3],λh=>by rw[Ja B,Ja (by intro x;have:=h x.1;omega)]⟩
 have J:=dB G;clear Q m G O;go_enter func109,ntmps109;go_wp2_with fail;apply jC (SR p _ W.o);intro w1 Q;rw[o]at *;obtain⟨Z,hL,W,G,m⟩:=IH Q;obtain⟨a1,j,W2,o,Y,n,hap⟩:=NS w1 a cap fs (HF.o.z m) I;have B:=dB o;have O:=dB Y;have A:=dB (LA.z ⟨Z,hL,W,G,HF.o.z m,m⟩ n);obtain⟨x0,-⟩:=Z.c6;have f:=bB G;have hn3:w.1.size<w1.1.size:=by omega
 clear Q Z hL W G m o Y n hap;obtain⟨⟨I,-⟩,-,-,-,o,-⟩:=A.o.cells;go_upto_region 2 with fail;go_cut [11] (λm wx=>m=.string F/\∃a1 j,LA w wx w.1.size a1 j fs c k cr fl dn lf ll ls)
 case first=>
  go_wp2_with(at_builtin;refine Lib.wpList_append_run _ rfl _ _ _ _ rfl _ _ rfl rfl _ _ B.o ?_);go_meet;have m:sD w.1.size W2 (W2.setCell (eB w.1.size 0) (qA a1 fs.length j)):=(sD.refl _ _).setCell 0 _;have h0:=A.o.D.set 0 (qA a1 fs.length j);exact⟨rfl,a1,j,by simpa using h0,A.o.L.but m (by omega),A.o.RD.but m (by omega),A.o.RL.but m (by omega),O.o.apart (kS O.o A.o.D) m,A.o.B.setCell (Ia _) _⟩
 clear A I o x0 f hn3 B O;obtain⟨rfl,a1,j,hA⟩:=hcut;rename fA=>w2;have A:=dB hA;clear hA;obtain⟨⟨I,N,O,S,T,U⟩,⟨X,Y,Z⟩,⟨q,r,s,t,u,y⟩,⟨z,C,G⟩,B,Q,W,yx,f⟩:=A.o.cells;obtain m|⟨hlb,hmb,o,o,hNE,h23,hT⟩:=J.o
 .rcases m with⟨h1|⟨h1,h2⟩,E⟩|⟨h1,h2,h3,E⟩
  all_goals
   have E:=dB E;clear HR0 J;go_wp2_with(first
    |(go_at_call 113;refine jC (gh (L:=⟨lf,ll,ls⟩) (by assumption) _) ?_;intro w3 i;replace A:=dB (A.o.z i);clear i I N O S T U X Y Z q r s t u y z C G B Q W yx f;obtain⟨⟨I,N,O,S,T,U⟩,⟨X,Y,Z⟩,⟨q,r,s,t,u,y⟩,⟨z,C,G⟩,B,Q,W,yx,f⟩:=A.o.cells)
    |(go_at_call 86;refine kO (eE (by assumption) _) ?_))
   go_region
   go_wp2;refine bodyPost_ret (v:=?_) (by simp[results,results109,go_sem,q,r,s,t,u,y,z,C,G];rfl) rfl ?_;rw[E.o];refine⟨a1,j,rfl,A.o.ret ?_⟩;repeat (first|with_reducible exact fB.refl _ _|with_reducible refine fB.drew ?_|with_reducible refine fB.setCell ?_ (Ca (by simp)) _ _)
 have HN:=dB (⟨o,hNE,h23,hT⟩:_/\_/\_/\_);have m:=hlb;simp only[bJ,yB,Sa,Ab]at m;obtain⟨⟨⟨hl1,hl2⟩,-⟩,hl3,hl4⟩:=m;obtain⟨m,m⟩:1<=d/\d<=1000000000:=by simpa[yB]using hmb
 clear J o hNE h23 hT;go_upto_region 7 with(first
  |(go_at_call 113;refine jC (gh (L:=⟨lf,ll,ls⟩) (by assumption) _) ?_;intro w3 i;replace A:=dB (A.o.z i);clear I N O S T U X Y Z q r s t u y z C G B Q W yx f i;obtain⟨⟨I,N,O,S,T,U⟩,⟨X,Y,Z⟩,⟨q,r,s,t,u,y⟩,⟨z,C,G⟩,B,Q,W,yx,f⟩:=A.o.cells)
  |(go_at_call 86;refine kO (eE (by assumption) _) ?_))
 go_cut [48] (λm wx=>m=sA (decide (ls≠0/\d<ls+F.size))/\wx=w3)
 case first=>
  have h3:(ls==0)=eA/\(ls != 0)=dA/\decide (ls≠0/\d<ls+F.size)=dA\/(ls==0)=dA/\(ls != 0)=eA/\(d<ls+F.size/\decide (ls≠0/\d<ls+F.size)=eA\/¬d<ls+F.size/\decide (ls≠0/\d<ls+F.size)=dA):=by
   by_cases h0:ls=0
   .left;simp[h0]
   right;by_cases m:d<ls+F.size<;>simp[h0,m]
  obtain⟨x1,x2,m⟩|⟨x1,x2,⟨x3,m⟩|⟨x3,m⟩⟩:=h3
  all_goals
   have m:=dB m;go_wp2;go_meet;exact⟨by rw[m.o],rfl⟩
 obtain⟨rfl,m⟩:=hcut;subst m;rename fA=>w3;clear I N O S T U X Y Z q r s t u y z C G B Q W yx f;go_upto_if 48 with fail;go_cut [12,13] (λ_ _ wx=>∃(fs9:List iB)(c9 k9 cr9 fl9:Int)(dn9:Bool)(g o:Int)(a9:nC)(cap9:Nat),LA w wx w.1.size a9 cap9 fs9 c9 k9 cr9 fl9 dn9 lf g o/\JK fs9/\1<=g/\g<=999999/\0<=o/\o<=1000000000/\cB (R=mH ⟨fs9,c9,k9,cr9,fl9,dn9⟩ ⟨lf,g,o⟩ F))
 case first=>
  by_cases hb:ls≠0/\d<ls+F.size
  .have HBT:=dB hb;rw[Ac hb];clear hb;obtain⟨⟨I,N,O,S,T,U⟩,⟨X,Y,Z⟩,⟨q,r,s,t,u,y⟩,⟨z,C,G⟩,B,Q,W,yx,f⟩:=A.o.cells;by_cases J:ll=999999
   .have E:=dB (HN.o.2.2.1 HBT.o J);have m:(ll==999999)=eA:=by simpa using J
    clear J;go_wp2_with fail;go_region
    go_wp2;refine bodyPost_ret (v:=?_) (by simp[results,results109,go_sem,q,r,s,t,u,y,z,C,G];rfl) rfl ?_;rw[E.o];refine⟨_,_,rfl,A.o.ret ?_⟩;repeat (first|with_reducible exact fB.refl _ _|with_reducible refine fB.drew ?_|with_reducible refine fB.setCell ?_ (Ca (by simp)) _ _)
   have m:(ll==999999)=dA:=by simpa using J
   have hl5:ll+1<=999999:=by omega
   have m:IntKind.i64.wrap (ll+1)=ll+1:=by rw[IntKind.wrap_i64];omega
   obtain⟨fs1,c1,k1,cr1,fl1,dn1,H,hst,m,hs1⟩:=MQ (D:=⟨fs,c,k,cr,fl,dn⟩) (op:=sG (ll+1)) HFIT.o (by have:=fO (ll+1);unfold maxLen;show(sH (ll+1)).size<=_;omega) (by show(0:Nat)<=_;omega) (by show(0:Nat)<=_;omega);have EN:=dB (HR0.o HN.o.1 HN.o.2.1 HBT.o J _ _ hst);have HFIT1:=dB m;have HST1:cB (cY _ ⟨1,sH (ll+1),⟨#[]⟩,⟨#[]⟩,0⟩ _ _):=hs1;clear hst m hs1 J I N O S T U X Y Z q r s t u y z C G B Q W yx f;obtain⟨⟨I,N,O,S,T,U⟩,⟨X,Y,Z⟩,⟨q,r,s,t,u,y⟩,⟨z,C,G⟩,B,Q,W,yx,f⟩:=A.o.cells;clear q r s t u y z C G W yx;go_upto_region 10 with fail;go_cut [12,13] (λsa sb wx=>∃P,sa=.pointer (vB P)/\sb=aB (H:Nat)/\PX w3 P fs1 c1 k1 cr1 fl1 dn1 wx)
   case first=>
    have K:=dB (λl(h:xB w3 l)=>(⟨(A.o.D.z h).c6,(A.o.L.z h).c3⟩:_/\_));go_region_held3 (λl=>(l.cell? (eB w.1.size 0)=cA (qA a1 fs.length j)/\l.cell? (eB w.1.size 1)=cA (aB c)/\l.cell? (eB w.1.size 2)=cA (aB k)/\l.cell? (eB w.1.size 3)=cA (aB cr)/\l.cell? (eB w.1.size 4)=cA (aB fl)/\l.cell? (eB w.1.size 5)=cA (sA dn))/\l.cell? (eB (w.1.size+1) 0)=cA (aB lf)/\l.cell? (eB (w.1.size+1) 1)=cA (aB ll)/\l.cell? (eB (w.1.size+1) 2)=cA (aB ls))
     (first|go_keep|with_reducible exact K.o _ (zv m (Ia _))|with_reducible exact K.o _ (zv m V.size)|with_reducible exact K.o _ m|with_reducible exact K.o _ V|with_reducible exact K.o _ (aC V bC)|with_reducible exact K.o _ (bC.drew)|with_reducible exact K.o _ (aC m bC))
     (first
     |(go_at_call 98;apply jC (dR _ _);intro v2 n;have V:xB w3 v2:=(by first|with_reducible exact aC gD.drew n|with_reducible exact aC (bC.drew) n);have c2:=K.o _ V;(first|(have hz:=mL n)|skip))
     |(go_at_call 37;refine(HST1.o _ _ _ (A.o.F.z (by first|with_reducible exact V|with_reducible exact aC V bC))).mono ?_;rintro e v3 ⟨a2,cap2,rfl,how,i⟩;have J:=dB how;have m:xB w3 v3:=(by first|with_reducible exact aC V i|with_reducible exact aC (aC V bC) i);have c3:=K.o _ m;(first|(have hz:=hz.z i)|(have hz:jB _ v2.1.size _ _:=pO i)|skip);(try (obtain⟨q0,q1,q2,q3,q4,q5⟩:=hz.c6;have b:=hz.free))))
    all_goals(go_wp2_with fail;go_meet)
    all_goals first
     |with_reducible exact⟨_,rfl,rfl,pg J.o m⟩
     |exact⟨_,rfl,rfl,pj J.o m (by first|exact Ia _|exact V.size) hz⟩
   obtain⟨P,rfl,rfl,a2,cap2,hP,hPB,hf2,hb4⟩:=hcut;rename fA=>w4;replace A:=dB (A.o.z hb4);have hN3:w.1.size+1+1+1<P:=by omega
   have F4:=dB hf2;clear I N O S T U X Y Z B Q f;obtain⟨⟨I,N,O,S,T,U⟩,⟨X,Y,Z⟩,⟨q,r,s,t,u,y⟩,⟨z,C,G⟩,B,Q,W,yx,f⟩:=A.o.cells;obtain⟨x0,x1,x2,x3,x4,x5⟩:=hPB.c6;clear hPB hf2 hb4;go_upto_region 11 with fail;go_cut [] (λwx=>LA w wx w.1.size a2 cap2 fs1 c1 k1 cr1 fl1 dn1 lf ll ls)
   case first=>
    go_wp2_with fail;go_meet;exact A.o.put F4.o
   rename fA=>w5;replace A:=dB hcut;clear hcut x0 x1 x2 x3 x4 x5 F4 I N O S T U X Y Z q r s t u y z C G B Q W yx f;obtain⟨⟨I,N,O,S,T,U⟩,⟨X,Y,Z⟩,⟨q,r,s,t,u,y⟩,⟨z,C,G⟩,B,Q,W,yx,f⟩:=A.o.cells;by_cases hc:H=0
   .have hcb:((H:Int) != 0)=dA:=by simp[hc]
    have E:cB (R=mH ⟨fs1,c1,k1,cr1,fl1,dn1⟩ ⟨lf,ll+1,0⟩ F):=by show _=_;rw[EN.o,Ja (by simp[hc])]
    clear hc;go_wp2_with fail;go_meet;have hLn:=(A.o.L.set 1 (aB (ll+1))).set 2 (aB 0);exact⟨fs1,c1,k1,cr1,fl1,dn1,ll+1,0,a2,cap2,A.o.log (by omega) (((sD.refl _ _).setCell 1 _).setCell 2 _) (by simpa using hLn),HFIT1.o,by omega,hl5,by omega,by omega,E⟩
   have hcb:((H:Int) != 0)=eA:=by simpa using hc
   have E:cB (R=(⟨fs1,c1,k1,cr1,fl1,dn1⟩,⟨lf,ll,ls⟩,H)):=by show _=_;rw[EN.o,Ma hc]
   clear hc;go_wp2_with fail;go_region
   go_wp2;refine bodyPost_ret (v:=?_) (by simp[results,results109,go_sem,q,r,s,t,u,y,z,C,G];rfl) rfl ?_;rw[E.o];refine⟨_,_,rfl,A.o.ret ?_⟩;repeat (first|with_reducible exact fB.refl _ _|with_reducible refine fB.drew ?_|with_reducible refine fB.setCell ?_ (Ca (by simp)) _ _)
  have E:=dB (HN.o.2.2.2 hb);rw[Ub hb];clear hb;go_wp2_with fail;go_meet;exact⟨fs,c,k,cr,fl,dn,ll,ls,a1,j,A.o,HFIT.o,hl1,hl2,hl3,hl4,E⟩
 clear A HFIT;obtain⟨fs9,c9,k9,cr9,fl9,dn9,g,o,a9,cap9,hA,hfit9,h91,h92,h93,h94,E9⟩:=hcut;rename fA=>w9;have A:=dB hA;obtain⟨fs6,c6,k6,cr6,fl6,dn6,M,hst,hfit6,hs6⟩:=MQ (D:=⟨fs9,c9,k9,cr9,fl9,dn9⟩) (op:=bI g F) hfit9 (by have:=fO (g);unfold maxLen;show(sH (g)).size<=_;omega) (by show(0:Nat)<=_;omega) (by show F.size<=_;omega);have HST6:cB (cY _ ⟨2,sH g,⟨#[]⟩,F,0⟩ _ _):=hs6;have HS6:=dB hst;have HFIT6:=dB hfit6;clear hst hfit6 hs6 hA hfit9 HR0 HN;obtain⟨⟨I,N,O,S,T,U⟩,⟨X,Y,Z⟩,⟨q,r,s,t,u,y⟩,⟨z,C,G⟩,B,Q,W,yx,f⟩:=A.o.cells;clear q r s t u y z C G W yx;go_upto_region 16 with fail;go_cut [14,15] (λsa sb wx=>∃P,sa=.pointer (vB P)/\sb=aB (M:Nat)/\PX w9 P fs6 c6 k6 cr6 fl6 dn6 wx)
 case first=>
  have K:=dB (λl(h:xB w9 l)=>(⟨(A.o.D.z h).c6,(A.o.L.z h).c3⟩:_/\_));go_region_held3 (λl=>(l.cell? (eB w.1.size 0)=cA (qA a9 fs9.length cap9)/\l.cell? (eB w.1.size 1)=cA (aB c9)/\l.cell? (eB w.1.size 2)=cA (aB k9)/\l.cell? (eB w.1.size 3)=cA (aB cr9)/\l.cell? (eB w.1.size 4)=cA (aB fl9)/\l.cell? (eB w.1.size 5)=cA (sA dn9))/\l.cell? (eB (w.1.size+1) 0)=cA (aB lf)/\l.cell? (eB (w.1.size+1) 1)=cA (aB g)/\l.cell? (eB (w.1.size+1) 2)=cA (aB o))
   (first|go_keep|with_reducible exact K.o _ (zv m (Ia _))|with_reducible exact K.o _ (zv m V.size)|with_reducible exact K.o _ m|with_reducible exact K.o _ V|with_reducible exact K.o _ (aC V bC)|with_reducible exact K.o _ (bC.drew)|with_reducible exact K.o _ (aC m bC))
   (first
   |(go_at_call 98;apply jC (dR _ _);intro v2 n;have V:xB w9 v2:=(by first|with_reducible exact aC gD.drew n|with_reducible exact aC (bC.drew) n);have c2:=K.o _ V;(first|(have hz:=mL n)|skip))
   |(go_at_call 37;refine(HST6.o _ _ _ (A.o.F.z (by first|with_reducible exact V|with_reducible exact aC V bC))).mono ?_;rintro e v3 ⟨a2,cap2,rfl,how,i⟩;have J:=dB how;have m:xB w9 v3:=(by first|with_reducible exact aC V i|with_reducible exact aC (aC V bC) i);have c3:=K.o _ m;(first|(have hz:=hz.z i)|(have hz:jB _ v2.1.size _ _:=pO i)|skip);(try (obtain⟨q0,q1,q2,q3,q4,q5⟩:=hz.c6;have b:=hz.free))))
  all_goals(go_wp2_with fail;go_meet)
  all_goals first
   |with_reducible exact⟨_,rfl,rfl,pg J.o m⟩
   |exact⟨_,rfl,rfl,pj J.o m (by first|exact Ia _|exact V.size) hz⟩
 obtain⟨P,rfl,rfl,a6,m,hP,hPB,hf6,h⟩:=hcut;rename fA=>w10;have hN3:w.1.size+1+1+1<P:=by omega
 have hA:LA w w10 P a6 m fs6 c6 k6 cr6 fl6 dn6 lf g o:=⟨hPB,A.o.L.z h,A.o.RD.z h,A.o.RL.z h,hf6,aC A.o.B h⟩
 replace A:=dB hA;clear hA hPB hf6 h I N O S T U X Y Z B Q f;obtain⟨⟨I,N,O,S,T,U⟩,⟨X,Y,Z⟩,⟨q,r,s,t,u,y⟩,⟨z,C,G⟩,B,Q,W,yx,f⟩:=A.o.cells;by_cases hc:M=0
 .have hcb:((M:Int) != 0)=dA:=by simp[hc]
  obtain⟨fs7,c7,k7,cr7,fl7,dn7,m,hst,-,h⟩:=MQ (D:=⟨fs6,c6,k6,cr6,fl6,dn6⟩) (op:=jR g) HFIT6.o (by have:=fO (g);unfold maxLen;show(sH (g)).size<=_;omega) (by show(0:Nat)<=_;omega) (by show(0:Nat)<=_;omega);have HST7:cB (cY _ ⟨3,sH g,⟨#[]⟩,⟨#[]⟩,0⟩ _ _):=h;have ET:=dB (E9.o.trans (aW HS6.o hc hst));clear hc hst h;go_upto_region 19 with fail;go_cut [15] (λsb wx=>sb=aB (m:Nat)/\∃a7 h,LA w wx P a7 h fs7 c7 k7 cr7 fl7 dn7 lf g o)
  case first=>
   go_region_with (first
    |(go_at_call 98;apply jC (dR _ _);intro v2 n;have A2:=dB (A.o.z (aC gD.drew n));obtain⟨⟨x0,x1,x2,x3,x4,x5⟩,-⟩:=A2.o.cells)
    |(go_at_call 37;refine(HST7.o _ _ _ A2.o.F).mono ?_;rintro e v3 ⟨a7,h,rfl,how,i⟩;have J:=dB how;have A3:=dB (A2.o.z i);obtain⟨⟨q0,q1,q2,q3,q4,q5⟩,-,-,-,b,-⟩:=A3.o.cells))
   all_goals
    go_wp2_with fail;go_meet;exact⟨rfl,a7,h,A3.o.putP (by omega) J.o⟩
  obtain⟨rfl,a7,h,hA⟩:=hcut;rename fA=>J;replace A:=dB hA;clear hA I N O S T U X Y Z q r s t u y z C G B Q W yx f;obtain⟨⟨I,N,O,S,T,U⟩,⟨X,Y,Z⟩,⟨q,r,s,t,u,y⟩,⟨z,C,G⟩,B,Q,W,yx,f⟩:=A.o.cells;by_cases J:m=0
  .have hcb7:((m:Int)==0)=eA:=by simp[J]
   have E:cB (R=(⟨fs7,c7,k7,cr7,fl7,dn7⟩,⟨lf,g,o+F.size⟩,m)):=by show _=_;rw[ET.o,Ja (by simp[J]),J]
   clear J;go_upto_region 21 with fail;go_cut [] (λwx=>LA w wx P a7 h fs7 c7 k7 cr7 fl7 dn7 lf g (o+F.size))
   case first=>
    go_wp2_with fail;go_meet;have hLn:=A.o.L.set 2 (aB (o+F.size));exact A.o.log (by omega) ((sD.refl _ _).setCell 2 _) (by simpa using hLn)
   rename fA=>h;replace A:=dB hcut;clear hcut I N O S T U X Y Z q r s t u y z C G B Q W yx f;obtain⟨⟨I,N,O,S,T,U⟩,⟨X,Y,Z⟩,⟨q,r,s,t,u,y⟩,⟨z,C,G⟩,B,Q,W,yx,f⟩:=A.o.cells;go_wp2_with fail;go_region
   go_wp2;refine bodyPost_ret (v:=?_) (by simp[results,results109,go_sem,q,r,s,t,u,y,z,C,G];rfl) rfl ?_;rw[E.o];refine⟨_,_,rfl,A.o.ret ?_⟩;repeat (first|with_reducible exact fB.refl _ _|with_reducible refine fB.drew ?_|with_reducible refine fB.setCell ?_ (Ca (by simp)) _ _)
  have hcb7:((m:Int)==0)=dA:=by simpa using J
  have E:cB (R=(⟨fs7,c7,k7,cr7,fl7,dn7⟩,⟨lf,g,o⟩,m)):=by show _=_;rw[ET.o,Ma J]
  clear J;go_wp2_with fail;go_region
  go_wp2;refine bodyPost_ret (v:=?_) (by simp[results,results109,go_sem,q,r,s,t,u,y,z,C,G];rfl) rfl ?_;rw[E.o];refine⟨_,_,rfl,A.o.ret ?_⟩;repeat (first|with_reducible exact fB.refl _ _|with_reducible refine fB.drew ?_|with_reducible refine fB.setCell ?_ (Ca (by simp)) _ _)
 have hcb:((M:Int) != 0)=eA:=by simpa using hc
 have E:=dB (E9.o.trans (zV HS6.o hc));clear hc;go_wp2_with fail;go_region
 go_wp2;refine bodyPost_ret (v:=?_) (by simp[results,results109,go_sem,q,r,s,t,u,y,z,C,G];rfl) rfl ?_;rw[E.o];refine⟨_,_,rfl,A.o.ret ?_⟩;repeat (first|with_reducible exact fB.refl _ _|with_reducible refine fB.drew ?_|with_reducible refine fB.setCell ?_ (Ca (by simp)) _ _)
