import Derived.Test.YtcmdjimlmnaojaaGreatDoorJ28
import Derived.Test.YtcmdjimlmnaojaaGreatDoorJ27
import Derived.Test.YtcmdjimlmnaojaaGreatDoorJ25
set_option maxRecDepth 100000
set_option maxHeartbeats 8000000
set_option linter.defProp false
open Option renaming some->cA,none->aA
open ByteArray renaming empty->lA
open Bool renaming true->eA,false->dA
open List renaming length->zA
namespace Go.Proofs.YtcmdjimlmnaojaaGreatDoor
open Go renaming World->fA,Value->jA,TypeId->kA
open Value renaming string->pA,agg->uA,slice->qA,bool->sA
open Obj renaming cells->xA
open Ending renaming returned->vA
open Go.RowKit Tryz
def aJu(a:List nE):Prop:=∀i(h:i<zA a),a[i].T.size<=1000000000/\a[i].X.size<=1000000000
def er(v:Int)(w:fA):cF 23 #[aB v] w (pA (tB 1 v)):=by
 have c:=dB (oH 1 v w (by omega));generalize tB 1 v=N at *;go_enter func23,ntmps23;go_wp2_with fail;apply jC c.o;intro f a;have b:=dB a;clear a;go_wp2;go_ret;exact⟨rfl,b.o⟩
def eo(v:Int)(w:fA):cF 150 #[aB v] w (pA (tB 2 v)):=by
 have c:=dB (oH 2 v w (by omega));generalize tB 2 v=N at *;go_enter func150,ntmps150;go_wp2_with fail;apply jC c.o;intro f a;have b:=dB a;clear a;go_wp2;go_ret;exact⟨rfl,b.o⟩
def KF(v:Int)(w:fA):cF 159 #[aB v] w (pA (tB 8 v)):=by
 have c:=dB (oH 8 v w (by omega));generalize tB 8 v=N at *;go_enter func159,ntmps159;go_wp2_with fail;apply jC c.o;intro f a;have b:=dB a;clear a;go_wp2;go_ret;exact⟨rfl,b.o⟩
def xk:(prog.info? 9).map (λi=>(i.zero,i.size,i.bytes))=cA (cA (pA lA),1,16):=by kernel_rfl
def gZ(a:List nE):List pB:=a.flatMap λr=>[tB 1 r.K,gN r.T,dG r.X,tB 8 r.U]
def iq(a:List nE)(k:Nat)(h:k<zA a):gZ (a.take (k+1))=gZ (a.take k)++[tB 1 a[k].K,gN a[k].T,dG a[k].X,tB 8 a[k].U]:=by
 unfold gZ;rw[Pa h,He];rfl
def NM:∀(a:List nE),vF (gZ a)=aN a
 |[]=>rfl
 |r::q=>by
  have e:gZ (r::q)=[tB 1 r.K,gN r.T,dG r.X,tB 8 r.U]++gZ q:=rfl;rw[e,oG,NM q,aN];simp[vF,XW,Wa]
theorem ee(d:Int)(a:Option Addr)(t:Nat)(c:List nE)(w:World)(hf:yI w a c)(hB:aJu c)(hlen:c.length<=2000000):
 Calls prog 196 #[.agg #[.int .i64 d,.slice a c.length t]] w λe f=>e=.returned (.string (oO d c))/\Below w.1.size w f:=by
 have z:(d<1\/¬d<1/\d > 1000000000000000\/(¬d<1/\¬d > 1000000000000000)/\(c.length:Int)<1\/(¬d<1/\¬d > 1000000000000000)/\¬(c.length:Int)<1/\(c.length:Int) > 500)\/(¬d<1/\¬d > 1000000000000000)/\¬(c.length:Int)<1/\¬(c.length:Int) > 500:=by omega
 obtain z|⟨⟨Z,c2⟩,c3,c4⟩:=z
 .have E:=dB (MC (lsn:=d) (rs:=c) λh=>by obtain⟨h1,h2,h3,h4,-⟩:=h;omega);rw[E.o];clear hf hB;obtain Z|⟨Z,c2⟩|⟨⟨Z,c2⟩,c3⟩|⟨⟨Z,c2⟩,c3,c4⟩:=z
  all_goals
   go_enter func196,ntmps196;go_wp2;go_ret;exact⟨rfl,bC⟩
 have HF:cB (yI w a c):=hf;have HB:cB (aJu c):=hB;have O:cB _:=λW=>KF d W;have N:cB _:=λW=>eo (c.length:Nat) W;have hz8:=nB 8 d;have hz2:=nB 2 (c.length:Nat);have HKB:cB (fY d c->oO d c=tB 8 d++tB 2 (c.length:Nat)++aN c):=λh=>MD h;have HOK:cB (uu c->fY d c):=λh=>⟨by omega,by omega,by omega,by omega,h⟩
 generalize tB 8 d=N8 at *;generalize tB 2 (c.length:Nat)=N2 at *;clear hf hB;go_enter func196,ntmps196;go_upto_region 3 with fail;have X6:cB (jB (w.alloc (.cells #[.int .i64 d,.slice a c.length t] 109)) w.1.size #[.int .i64 d,.slice a c.length t] 109):=jB.new _ _ _;have B0:cB (Below w.1.size w (w.alloc (.cells #[.int .i64 d,.slice a c.length t] 109))):=bC;generalize w.alloc (.cells #[.int .i64 d,.slice a c.length t] 109)=J at *;have D:cB (∀f,Below J.1.size J f->f.cell? ⟨w.1.size,0,none⟩=some (.int .i64 d)/\f.cell? ⟨w.1.size,1,none⟩=some (.slice a c.length t)):=λf h=>by
  have q:=X6.o.z h;exact⟨q.cell 0,q.cell 1⟩
 obtain⟨x0,x1⟩:=D.o J gD;go_cut [3] (λs wx=>∃g,s=.slice (some ⟨g,0,none⟩) 2 2/\J.1.size<=g/\wx.heap[g]?=some (.cells #[.string N8,.string N2] 9 (0,0))/\Below J.1.size J wx)
 case first=>
  go_region_held3 (λf=>f.cell? ⟨w.1.size,0,none⟩=some (.int .i64 d)/\f.cell? ⟨w.1.size,1,none⟩=some (.slice a c.length t))
   (first|go_keep|exact D.o _ k4|exact D.o _ k3)
   (first
    |(go_at_call 159;refine(O.o _).mono ?_;rintro e w3 ⟨rfl,U⟩;have k3:Below J.1.size J w3:=(by exact aC gD.drew U))
    |(go_at_call 150;refine(N.o _).mono ?_;rintro e w4 ⟨rfl,V⟩;have k4:Below J.1.size J w4:=(by exact aC k3 V)))
  all_goals(go_wp2_with fail;go_meet)
  all_goals exact⟨_,rfl,k4.size,heap_alloc_new _ _,aC k4 bC⟩
 obtain⟨g0,rfl,hg0,C,Y⟩:=hcut;rename World=>w5;have B5:cB _:=aC B0.o Y;have HBL:cB (w5.heap[g0]?=some (.cells #[.string N8,.string N2] 9 (0,0))/\w.1.size<=g0):=⟨C,Ua B0.o.size hg0⟩
 have HK5:cB _:=λf h=>D.o f (aC Y h);obtain⟨y0,y1⟩:=HK5.o w5 gD;clear x0 x1 D X6 C hg0 Y B0 O N HK5;go_wp2;go_loopw [3,5,37] (λout _ i wr=>∃(k:Nat)(l:List ByteArray)(g cv:Nat),k<=c.length/\i=.int .i64 k/\out=.slice (some ⟨g,0,none⟩) l.length cv/\l.length<=2+4*k/\iG l<=10+k*3000000000/\cB (l=N8::N2::gZ (c.take k))/\cB (∀j(h:j<c.length),j<k->yO c[j])/\cB (wr.ownsRow w.1.size 9 1 (.slice (some ⟨g,0,none⟩) l.length cv) l.length (l.map Value.string))/\Below w.1.size w wr) (λ_ _ i _=>c.length-(intOf i).toNat)
 case atStart=>
  exact⟨0,[N8,N2],_,_,Oa _,rfl,rfl,by simp,by simp[iG];omega,rfl,λj _ h=>absurd h (by omega),⟨rfl,La ⟨g0,2,_,rfl,HBL.o.2,HBL.o.1,Ia _,by simp[maxLen],rfl,rfl⟩⟩,B5.o⟩
 case round=>
  obtain⟨k,l,g,cv,hk,rfl,rfl,hpl,hps,HPS,x,n,p⟩:=hrel;by_cases M:k<c.length
  .obtain ⟨b,o,rfl,hb,c0,Z,c2,c3⟩:=(HF.o.z p).at M;obtain⟨hn1,hn2⟩:=HB.o k M;have y:cB (∀W,Calls prog 240 #[.agg #[.int .i64 c[k].K,.string c[k].T,.string c[k].X,.int .i64 c[k].U]] W λe f=>e=.returned (.bool (bd c[k]))/\Below W.1.size W f):=λW=>xq c[k] W hn1 hn2;by_cases A:yO c[k]
   .rw[VU A]at y;have HK1:cB (∀W,Calls prog 23 #[.int .i64 c[k].K] W λe f=>e=.returned (.string (tB 1 c[k].K))/\Below W.1.size W f):=λW=>er _ W;have HS8:cB _:=λW=>pS c[k].T W hn1;have HS16:cB _:=λW=>rL c[k].X W hn2;have HN8:cB (∀W,Calls prog 159 #[.int .i64 c[k].U] W λe f=>e=.returned (.string (tB 8 c[k].U))/\Below W.1.size W f):=λW=>KF _ W;have hq1:=nB 1 c[k].K;have hq2:=sF c[k].T;have hq3:=eF c[k].X;have hq4:=nB 8 c[k].U;have HA2:cB (∀j(h:j<c.length),j<k+1->yO c[j]):=λj h hj=>by
     rcases Gc j k with h1|h1
     .exact x.o j h h1
     .obtain rfl:j=k:=by omega
      exact A
    have HT:=iq c k M;have E2:cB (l++[tB 1 c[k].K,gN c[k].T,dG c[k].X,tB 8 c[k].U]=N8::N2::gZ (c.take (k+1))):=by show _=_;rw[HT,HPS.o];rfl
    clear HT A x;generalize tB 1 c[k].K=F at *;generalize gN c[k].T=G at *;generalize dG c[k].X=H at *;generalize tB 8 c[k].U=I at *;generalize c[k].K=ki at *;generalize c[k].T=te at *;generalize c[k].X=tx at *;generalize c[k].U=nu at *;have S:=dB (jB.new wr #[.int .i64 ki,.string te,.string tx,.int .i64 nu] 119);have hgB:=(fH n.o).2.1;have HBW:=dB (zF wr (.cells #[.int .i64 ki,.string te,.string tx,.int .i64 nu] 119));go_wp2_with fail;refine(y.o _).mono ?_;rintro e W ⟨rfl,u⟩;have D:=dB (λf(h:Below W.1.size W f)=>(S.o.z u).z h);have X:=aC HBW.o u;have T:=dB (show W.ownsRow w.1.size 9 1 (.slice (some ⟨g,0,none⟩) l.length cv) l.length (l.map Value.string)/\Below w.1.size w W from⟨hC n.o X,aC p X⟩);have hBX:=bB (S.o.z u);have hww:=T.o.2.size;clear n S hb c0 Z c2 c3 p u y X HBW;go_wp2_with fail;generalize wr.1.size=K at *;clear wr;have r:cB (∀f,Below W.1.size W f->f.cell? ⟨K,0,none⟩=some (.int .i64 ki)/\f.cell? ⟨K,1,none⟩=some (.string te)/\f.cell? ⟨K,2,none⟩=some (.string tx)/\f.cell? ⟨K,3,none⟩=some (.int .i64 nu)):=λf h=>⟨(D.o f h).cell 0,(D.o f h).cell 1,(D.o f h).cell 2,(D.o f h).cell 3⟩
    obtain⟨x0,x1,x2,x3⟩:=r.o W gD;go_region_held3 (λf=>f.cell? ⟨K,0,none⟩=some (.int .i64 ki)/\f.cell? ⟨K,1,none⟩=some (.string te)/\f.cell? ⟨K,2,none⟩=some (.string tx)/\f.cell? ⟨K,3,none⟩=some (.int .i64 nu))
     (first|go_keep|exact R|exact r.o _ (m.alloc m.size _)|exact r.o _ m|exact r.o _ hc3|exact r.o _ hc2|exact r.o _ hc1)
     ((first
       |(go_at_call 23;refine(HK1.o _).mono ?_;rintro e w1 ⟨rfl,hb1⟩;have hc1:Below W.1.size W w1:=(Below.refl _ W).drew.trans hb1)
       |(go_at_call 213;refine(HS8.o _).mono ?_;rintro e w2 ⟨rfl,L⟩;have hc2:=aC hc1 L)
       |(go_at_call 162;refine(HS16.o _).mono ?_;rintro e w3 ⟨rfl,U⟩;have hc3:=aC hc2 U)
       |(go_at_call 159;refine(HN8.o _).mono ?_;rintro e w4 ⟨rfl,V⟩;have m:=aC hc3 V)
       |(refine fS (by rfl) _ _ (by rfl) underlying30 xk rfl (by omega) (by omega) (B:=w.1.size) (by rfl) (by exact hC (hC T.o.1 m) bC) [.string F,.string G,.string H,.string I] (by rfl) rfl (by exact La ⟨_,rfl,World.news_of_block (cs:=#[.string F,.string G,.string H,.string I]) (heap_alloc_new _ _)⟩) (by simp[Value.oneCell']) (by omega) (by have:=m.size;simp;omega) ?_;intro g5 P w5 v hB5 hk5 _;have R:=(TY (hk5 K (by have:=m.size;simp;omega) (by omega)) (r.o _ (m.alloc m.size (.cells #[.string F,.string G,.string H,.string I] 9)))))))
    have hle:(l++[F,G,H,I]).length=l.length+4:=by simp
    have hsm:iG (l++[F,G,H,I])=iG l+(F.size+(G.size+(H.size+I.size))):=by rw[wH];simp[iG]
    rw[<-hle]at v |-
    have HO5:=dB (show w5.ownsRow w.1.size 9 1 (.slice (some ⟨g5,0,none⟩) (l++[F,G,H,I]).length P) (l++[F,G,H,I]).length ((l++[F,G,H,I]).map Value.string)/\Below w.1.size w w5 from⟨by rw[Ld];exact v,((aC T.o.2 m).alloc (Ua hww m.size) _).trans hB5⟩);clear v hB5 hk5 R;generalize l++[F,G,H,I]=ps5 at *;go_wp2;exact⟨⟨k+1,ps5,g5,P,by omega,by go_num,rfl,by omega,by omega,E2.o,HA2.o,HO5.o.1,HO5.o.2⟩,by simp[intOf];omega⟩
   .have E:cB _:=qz M A d;rw[BB A]at y;generalize c[k].K=ki at *;generalize c[k].T=te at *;generalize c[k].X=tx at *;generalize c[k].U=nu at *;clear A x n;go_wp2_with fail;refine(y.o _).mono ?_;rintro e W ⟨rfl,u⟩;have BW:cB _:=aC (aC p bC) u;clear u y;go_wp2;go_ret;exact⟨by rw[E.o];rfl,BW.o⟩
  .have Q:uu c:=λj h=>x.o j h (by omega);have E2:cB (vF l=oO d c):=by
    show _=_;rw[HPS.o,Ra (by omega),vF,vF,NM,HKB.o (HOK.o Q),Wa]
   obtain⟨hcv,hg,z⟩:=fH n.o;have HJ:cB (Calls prog 154 #[.slice (some ⟨g,0,none⟩) l.length cv] wr λe f=>e=.returned (.string (vF l))/\Below wr.1.size wr f):=nI g l.length cv l wr rfl z hg hcv (by omega) (by omega);rw[E2.o]at HJ;clear n z Q;go_wp2_with fail;refine HJ.o.mono ?_;rintro e w2 ⟨rfl,L⟩;have B2:cB _:=aC p L;clear L;go_wp2;go_ret;exact⟨rfl,B2.o⟩
def lv{x b a:Int}(h:yB x b a=eA):b<=x/\x<=a:=by simpa[yB]using h
structure NP(w W:World)(c:lC)(cs:Array Value):Prop where
 C:jB W w.1.size #[aB c.w,aB c.tl,aB c.ml,aB c.sh,aB c.ha,aB c.sg] 24
 N:jB W (w.1.size+1) cs 42
 R:jB W (w.1.size+1+1) (gC aA 0 aA 0 bL) 42
 B:xB w W
section
variable {w W W':fA} {c:lC} {cs cs':Array jA}
theorem NP.new:NP w (((w.alloc (xA #[aB c.w,aB c.tl,aB c.ml,aB c.sh,aB c.ha,aB c.sg] 24)).alloc (xA cs 42)).alloc (xA (gC aA 0 aA 0 bL) 42)) c cs:=
 ⟨((jB.new _ _ _).alloc _).alloc _,by have:=(jB.new (w.alloc (xA #[aB c.w,aB c.tl,aB c.ml,aB c.sh,aB c.ha,aB c.sg] 24)) cs 42).alloc (xA (gC aA 0 aA 0 bL) 42);simpa using this,
   by have:=jB.new ((w.alloc (xA #[aB c.w,aB c.tl,aB c.ml,aB c.sh,aB c.ha,aB c.sg] 24)).alloc (xA cs 42)) (gC aA 0 aA 0 bL) 42;simpa using this,aC (aC bC bC) bC⟩
theorem NP.z(h:NP w W c cs)(a:xB W W'):NP w W' c cs:=⟨h.C.z a,h.N.z a,h.R.z a,aC h.B a⟩
theorem NP.put(h:NP w W c cs)(b:jB W' (w.1.size+1) cs' 42)(a:fB (·=w.1.size+1) W W'):NP w W' c cs':=
 ⟨a.blk h.C (by omega),b,a.blk h.R (by omega),h.B.trans (a.below h.B.size λk d e=>by omega)⟩
theorem NP.lt(h:NP w W c cs):w.1.size+1+1<W.1.size:=bB h.R
theorem NP.cells(h:NP w W c cs)(a:cs.size=14):W.cell? (eB w.1.size 0)=cA (aB c.w)/\W.cell? (eB w.1.size 1)=cA (aB c.tl)/\W.cell? (eB w.1.size 2)=cA (aB c.ml)/\W.cell? (eB w.1.size 3)=cA (aB c.sh)/\W.cell? (eB w.1.size 4)=cA (aB c.ha)/\W.cell? (eB w.1.size 5)=cA (aB c.sg)/\jB W (w.1.size+1) cs 42/\sK W (w.1.size+1)/\sK W (w.1.size+1+1)/\w.1.size<W.1.size/\w.1.size+1<W.1.size/\w.1.size+1+1<W.1.size/\¬w.1.size=W.1.size/\¬w.1.size+1=W.1.size/\¬w.1.size+1+1=W.1.size:=
 have:=h.lt
 ⟨h.C.cell 0,h.C.cell 1,h.C.cell 2,h.C.cell 3,h.C.cell 4,h.C.cell 5,h.N,h.N.box a,h.R.box rfl,by omega,by omega,this,by omega,by omega,by omega⟩
end
def cc{a:List nE}(h:eD a<=1400000):aJu a:=λi b=>by
 have d:=zT a i b;have e:=pX a (i+1);omega
def xj:(prog.info? 42).map (·.size)=cA 14:=by kernel_rfl
def RT(M:sC)(x:jA)(w:fA)(e:Ending)(c:fA):Prop:=
 ∃a f b g,e=vA (.tuple #[uA (gC a f b g M),x])/\uB c a M.d.fs/\aD c b M.ts/\xB w c
def qu(V:sC×Int)(w:fA)(e:Ending)(a:fA):Prop:=RT V.1 (aB V.2) w e a
def qm{b:Func}{a:Act}{W:fA}{R i j:Nat}{cs:Array jA}{T:kA}{x:jA}(h:b.results=#[.cell i 42,.tmp j])(c:a.tmps.getD i undef=.pointer (vB R))(d:a.tmps.getD j undef=x)(e:jB W R cs T)(f:C14 cs):(results b a.tmps).run prog W=.ok (.tuple #[uA cs,x]) W:=by
 have:=run_loadVar_row (P:=prog) W R T 42 cs (0,0) _ e underlying42 rfl (by rw[xj,f.size]);simp at c d;simp[results,h,c,d,asAddr,this]
def cU{l:Func}{t:Act}{w W:fA}{R i j:Nat}{cs:Array jA}{T:kA}{M:sC}{x:jA}{a b:nC}{f g:Nat}(h:l.results=#[.cell i 42,.tmp j])(o:t.tmps.getD i undef=.pointer (vB R))(p:t.tmps.getD j undef=x)(u:t.defers=[])(c:jB W R cs T)(n:∀(j:Nat)(s:pB),cs[j]?≠cA (jA.string s))(z:w.1.size<=R)(m:xB w W)(q:uB W a M.d.fs)(r:aD W b M.ts):bodyPost prog l (λe v=>RT M x w e v) .ret t (W.setRow R (gC a f b g M)):=
 bodyPost_ret (qm h o p c.row (dH _ _ _ _ _)) u ⟨a,f,b,g,rfl,q.store c n (uG _ _ _),r.store c n (uG _ _ _),m.trans ((uG _ _ _).below m.size λk y e=>by omega)⟩
def aX{g:Func}{t:Act}{w W:fA}{i j:Nat}{c:lC}{cs:Array jA}{V:sC×Int}{M:sC}{f:Int}{a b:nC}{ca cb:Nat}(h:g.results=#[.cell i 42,.tmp j])(k:t.tmps.getD i undef=.pointer (vB (w.1.size+1+1)))(l:t.tmps.getD j undef=aB f)(o:t.defers=[])(P:NP w W c cs)(E:V=(M,f))(m:uB W a M.d.fs)(n:aD W b M.ts):bodyPost prog g (λe p=>qu V w e p) .ret t (W.setRow (w.1.size+1+1) (gC a ca b cb M)):=by
 subst E;exact cU h k l o P.R (rF _ _ _ _ _) (by omega) P.B m n
def aNw{N:sC}{b:Bool}(h:bf N=b):b=dA/\N.up=dA\/b=dA/\N.up=eA/\N.deg=eA\/b=eA/\N.up=eA/\N.deg=dA:=by
 subst h;unfold bf;cases N.up<;>cases N.deg<;>simp
section
open Go.Maps
attribute [local go_sem] fG dH lK jB.drewI sK.drewI sK.new sK.alloc sK.alloc2
def mF(n:Int)(w:fA)(b : -9223372036854775808<=n)(c:n<=9223372036854775807):cF 45 #[aB n] w (pA (tB 1 n)):=by
 have H:=dB (λW=>mD 1 n W (by omega) b c);go_enter func45,ntmps45;go_wp2_with fail;apply jC (H.o _);intro f a;replace a:=dB a;go_wp2;go_ret;exact⟨rfl,a.o⟩
def aL(N:sC)(a:Int)(b:pB):pB:=if a=0 then b else if a=22\/a=23\/a=21\/a=62 then tB 1 2 else if N.up=dA then tB 1 4 else tB 1 3
def aLj{N:sC}{code:Int}{reply:pB}:(code==0)=eA/\aL N code reply=reply\/(code==0)=dA/\(((code==22)=eA\/(code==22)=dA/\((code==23)=eA\/(code==23)=dA/\((code==21)=eA\/(code==21)=dA/\(code==62)=eA)))/\aL N code reply=tB 1 2\/(code==22)=dA/\(code==23)=dA/\(code==21)=dA/\(code==62)=dA/\(N.up=dA/\aL N code reply=tB 1 4\/N.up=eA/\aL N code reply=tB 1 3)):=by
 unfold aL;by_cases a:code=0
 .exact Ca ⟨by simpa using a,Ma a⟩
 refine La ⟨by simpa using a,?_⟩;rw[Ja a];by_cases b:code=22\/code=23\/code=21\/code=62
 .exact Ca ⟨by rcases b with h|h|h|h<;>simp[h],Ma b⟩
 refine La ⟨by simp;omega,by simp;omega,by simp;omega,by simp;omega,?_⟩;rw[Ja b];cases N.up
 .exact Ca ⟨rfl,Ma rfl⟩
 exact La ⟨rfl,Ja (by simp)⟩
def uW(a b:nC)(g i:Nat)(N:sC)(f:Int)(c:pB)(w:fA)(r:uB w a N.d.fs)(s:aD w b N.ts):
 Calls prog 51 #[uA (gC a g b i N),aB f,pA c] w λe j=>RT N (pA (aL N f c)) w e j:=by
 have l:=dB r;have n:=dB s;have d:=aLj (N:=N) (code:=f) (reply:=c);clear r s;generalize aL N f c=V at *;have E:=cL;obtain⟨v,rfl⟩|⟨v,⟨o|⟨o,p|⟨p,q|⟨q,x⟩⟩⟩,rfl⟩|⟨o,p,q,x,⟨t,rfl⟩|⟨t,rfl⟩⟩⟩:=d
 all_goals
  have A:=jF a g b i N 42;have y:=rE a g b i N;(try rw[t]at A y);have X:=dB ((jB.new w (gC a g b i N) 42).alloc (xA (gC aA 0 aA 0 bL) 42));have R:=jB.new (w.alloc (xA (gC a g b i N) 42)) (gC aA 0 aA 0 bL) 42;rw[fA.size_alloc]at R;replace R:=dB R;have B:=dB (aC (zF w (xA (gC a g b i N) 42)) (zF _ (xA (gC aA 0 aA 0 bL) 42)));go_enter func51,ntmps51;go_upto_region 1 with fail;generalize (w.alloc (xA (gC a g b i N) 42)).alloc (xA (gC aA 0 aA 0 bL) 42)=W at *;have F:=X.o;have G:=R.o.box rfl;have m:=dB (λj(h:xB W j)=>X.o.z h);have u:=dB (λj(h:xB W j)=>((uG j (w.1.size+1) (gC a g b i N)).blk (X.o.z h) (by omega):jB _ w.1.size _ _));go_wp2
 all_goals first
  |exact cU rfl rfl rfl rfl R.o (rF _ _ _ _ _) (by omega) B.o (l.o.z B.o) (n.o.z B.o)
  |skip
 all_goals
  go_region_held3 (λj=>jB j w.1.size (gC a g b i N) 42)
   (first|with_reducible exact m.o _ k|with_reducible exact m.o _ gD.drew|exact u.o _ k)
   (first|(go_at_call 45;refine jC (mF _ _ (by omega) (by omega)) ?_;intro C z;have k:xB W C:=(by with_reducible exact aC gD.drew z);have D:=(R.o.z k).box rfl))
  replace B:=dB (aC B.o k);go_wp2;exact cU rfl rfl rfl rfl (R.o.z k) (rF _ _ _ _ _) (by omega) B.o (l.o.z B.o) (n.o.z B.o)
end
def aFl{c:lC}{b a:Int}{d:List gB}(h:iC c b d=eA):kD c.w a (DH ⟨⟨#[]⟩,0,[],[]⟩ eA d)=kD c.w a d:=by
 rw[fU (t:=⟨⟨#[]⟩,0,[],[]⟩) (gu h)]
def aGw:WT ⟨⟨#[]⟩,0,[],[]⟩:=⟨Oa _,Oa _,λi h=>absurd h (by simp)⟩
def GA(c:lC)(h:Int)(a:nC)(l:Nat)(k:List gB)(i:Int)(w:fA)(C:aD w a k)(m:zA k+eC k<=1900000)(r:iC c h k=eA):
 Calls prog 52 #[uE c,uA #[aB h,qA a (zA k) l],aB i] w λe D=>oT (BL c h k i) w e D:=by
 obtain⟨d,b,f,g⟩:=gR m;obtain⟨-,o,o,y,-⟩:=bG r;have F:=dB (λW(u:xB w W)=>tH c h a l k W (C.z u) b (by omega));have q:=dB (λW(u:xB w W)=>uS c h a l k W (C.z u) r m);have G:cB (∀W j,xB w W->0<=j->j<=1000000000000->Calls prog 111 #[uE c,uA #[aB h,qA a (zA k) l],aB j,uA #[pA ⟨#[]⟩,aB 0,qA aA 0 0,qA aA 0 0]] W λe D=>∃M t,e=vA (uA #[aB j,.slice M (zA (kD c.w j k)) t])/\dD D W.1.size M (kD c.w j k)/\xB W D):=λW j u o B=>by
  have:=CL c h j a l k ⟨⟨#[]⟩,0,[],[]⟩ aA aA 0 0 W (C.z u) (Ca rfl) (Ca rfl) (by omega) (λx B=>B.elim (λe=>e ▸ aGw) (MH r m x)) o (by omega);rw[show(⟨⟨#[]⟩,0,[],[]⟩:gB).N.toList.isEmpty=eA from by kernel_rfl,aFl r]at this;exact this
 have I:(i<1\/¬i<1/\1000000000000-h<i)/\BL c h k i=(h,k,dA)\/¬i<1/\¬1000000000000-h<i/\BL c h k i=(h+i,kD c.w (h+i) k,eA):=by
  unfold BL;rw[Ja (by rw[r];simp)];by_cases A:i<1<;>by_cases H:1000000000000-h<i<;>simp[A,H]
 rw[r]at F;clear C m d b f g r y;unfold oT;unfold uE at *;have P:=dB (AL.new (w:=w) (c:=c) (now:=h) (a:=a) (n:=zA k) (cap:=l));generalize BL c h k i=V at *;obtain⟨A|⟨A,H⟩,E⟩|⟨A,H,E⟩:=I
 all_goals
  have E:=dB E;go_enter func52,ntmps52;go_wp2_with(first
   |(go_at_call 44;apply jC (F.o _ P.o.B);intro m o;replace P:=dB (P.o.z o);clear o F;obtain⟨O,Q,R,S,T,U,X,Y,-,-,-,-,N⟩:=P.o.cells)
   |(go_at_call 101;refine(q.o _ P.o.B).mono ?_;rintro e B ⟨K,L,rfl,z,o⟩;have s:=dB (P.o.z o);have p:=dB z;clear z o O Q R S T U X Y q;obtain⟨-,-,-,-,-,-,-,-,Z,m,I,W,J⟩:=s.o.cells)
   |(go_at_call 111;refine(G.o _ (h+i) P.o.B (by omega) (by omega)).mono ?_;rintro e B ⟨K,L,rfl,z,o⟩;have s:=dB (P.o.z o);have p:=dB z;clear z o O Q R S T U X Y q;obtain⟨-,-,-,-,-,-,-,-,Z,m,I,W,J⟩:=s.o.cells))
  refine bodyPost_ret (v:=?_) (by simp[results,results52,go_sem,Z,m];rfl) rfl ?_;rw[E.o];first
   |exact⟨K,⟨L,rfl⟩,s.o.done p.o N⟩
   |exact⟨K,L,rfl,s.o.done p.o N⟩
def aCx:(prog.info? 101).map (λi=>(i.zero,i.size,i.bytes))=cA (cA (uA #[aB 0,pA ⟨#[]⟩,pA ⟨#[]⟩,pA ⟨#[]⟩,aB 0]),5,64):=by kernel_rfl
def GO(w:fA)(B:Nat)(v:jA)(n:Nat)(l:List oK):Prop:=w.ownsRow B 101 5 v n (aO l)
def GO.z{w a:fA}{B n:Nat}{v:jA}{l:List oK}(h:GO w B v n l)(b:xB w a):GO a B v n l:=hC h b
def GO.new(w:fA):GO (w.alloc (xA #[] 101)) w.1.size (qA (vB w.1.size) 0 0) 0 []:=fA.ownsRow_made w #[] 0 (Ia _) (by simp[maxLen]) (by simp)
def nf(l:List oK)(o:oK):aO (l++[o])=aO l++[aB o.K,pA o.N,pA o.tq,pA o.data,aB o.size]:=by simp[aO]
def JJ{A:Array Oper}{c:List Oper}{o:Oper}{a:Act}{Q:Exit->Act->fA->Prop}{w:fA}(u:o.guard=aA)(s x:Operand)
(H:o.op=.call { callee:=.builtin .append,args:=#[s,x],argTypes:=#[203,203] })
(B n:Nat)(v:jA)(l:List oK)(k z:Int)(m p f:pB)(I:a.eval s=v)(y:cB (GO w B v n l))(J:a.eval x=qA (vB w.1.size) 1 1)(K:n<=2000000)(F:B<=w.1.size)
(h:∀g b r,cB (GO r B (qA (vB g) (n+1) b) (n+1) (l++[⟨k,m,p,f,z⟩]))->Below B w r->wpList prog A Q c (a.put o.dst (qA (vB g) (n+1) b)) r):
 wpList prog A Q (o::c) a (w.alloc (xA #[aB k,pA m,pA p,pA f,aB z] 101)):=by
 obtain⟨i,G,C,D,E⟩:=info_parts aCx;refine wpList_append_lies _ u s x _ H B 101 i _ 5 64 underlying203 G C D E rfl (by omega) v n (aO l) I (fA.ownsRow.alloc y.o _) (eB w.1.size 0) 1 1 [aB k,pA m,pA p,pA f,aB z] J rfl (by
  have:=fA.news_of_block (cs:=#[aB k,pA m,pA p,pA f,aB z]) (t:=101) (fr:=(0,0)) (heap_alloc_new w (xA #[aB k,pA m,pA p,pA f,aB z] 101));simpa using this) (by simp[jA.oneCell']) (by omega) (by simp[maxLen];omega) (by omega) (by simp;omega) (w.1.size+1) (by simp) ?_
 intro g b r j d _ _;refine h g b r ?_ ?_;show fA.ownsRow _ _ _ _ _ _ _;rw[nf];exact j;exact (bC.mono F).trans ((fB.grown d).below (by simp;omega) (λq L e=>by have:=(y.o.lt q e).1;omega))
def LO(r:eG)(g:nC)(d:Nat)(c:lC)(a:nC)(e:Nat)(b:nC)(f:Nat)(N:sC)(l:Nat):Array jA:=#[aB r.K,pA r.T,pA r.R,aB r.U,qA g (zA r.P) d,aB c.w,aB c.tl,aB c.ml,aB c.sh,aB c.ha,aB c.sg,qA a (zA N.d.fs) e,aB N.d.c,aB N.d.k,aB N.d.cr,aB N.d.fl,sA N.d.dn,aB N.l.first,aB N.l.last,aB N.l.size,aB N.now,qA b (zA N.ts) f,aB N.lsn,sA N.deg,sA N.up,.pointer (vB l)]
def aNc{r:eG}{g:nC}{d:Nat}{c:lC}{a:nC}{e:Nat}{b:nC}{f:Nat}{N:sC}{l:Nat}{T:kA}:∀W D,jB W D (LO r g d c a e b f N l) T->W.cell? (eB D 0)=cA (aB r.K)/\W.cell? (eB D 1)=cA (pA r.T)/\W.cell? (eB D 2)=cA (pA r.R)/\W.cell? (eB D 3)=cA (aB r.U)/\W.cell? (eB D 4)=cA (qA g (zA r.P) d)/\W.cell? (eB D 5)=cA (aB c.w)/\W.cell? (eB D 6)=cA (aB c.tl)/\W.cell? (eB D 7)=cA (aB c.ml)/\W.cell? (eB D 8)=cA (aB c.sh)/\W.cell? (eB D 9)=cA (aB c.ha)/\W.cell? (eB D 10)=cA (aB c.sg)/\W.cell? (eB D 11)=cA (qA a (zA N.d.fs) e)/\W.cell? (eB D 12)=cA (aB N.d.c)/\W.cell? (eB D 13)=cA (aB N.d.k)/\W.cell? (eB D 14)=cA (aB N.d.cr)/\W.cell? (eB D 15)=cA (aB N.d.fl)/\W.cell? (eB D 16)=cA (sA N.d.dn)/\W.cell? (eB D 17)=cA (aB N.l.first)/\W.cell? (eB D 18)=cA (aB N.l.last)/\W.cell? (eB D 19)=cA (aB N.l.size)/\W.cell? (eB D 20)=cA (aB N.now)/\W.cell? (eB D 21)=cA (qA b (zA N.ts) f)/\W.cell? (eB D 22)=cA (aB N.lsn)/\W.cell? (eB D 23)=cA (sA N.deg)/\W.cell? (eB D 24)=cA (sA N.up)/\W.cell? (eB D 25)=cA (.pointer (vB l)):=
 λ_ _ h=>⟨h.cell 0,h.cell 1,h.cell 2,h.cell 3,h.cell 4,h.cell 5,h.cell 6,h.cell 7,h.cell 8,h.cell 9,h.cell 10,h.cell 11,h.cell 12,h.cell 13,h.cell 14,h.cell 15,h.cell 16,h.cell 17,h.cell 18,h.cell 19,h.cell 20,h.cell 21,h.cell 22,h.cell 23,h.cell 24,h.cell 25⟩
def jI{W:fA}{D:Nat}{T:kA}{r:eG}{g:nC}{d:Nat}{c:lC}{a:nC}{e:Nat}{b:nC}{f:Nat}{N:sC}{l:Nat}(h:jB W D (LO r g d c a e b f N l) T):(W.cell? (eB D 0)=cA (aB r.K)/\W.cell? (eB D 1)=cA (pA r.T)/\W.cell? (eB D 2)=cA (pA r.R)/\W.cell? (eB D 3)=cA (aB r.U)/\W.cell? (eB D 4)=cA (qA g (zA r.P) d)/\W.cell? (eB D 5)=cA (aB c.w)/\W.cell? (eB D 6)=cA (aB c.tl)/\W.cell? (eB D 7)=cA (aB c.ml)/\W.cell? (eB D 8)=cA (aB c.sh)/\W.cell? (eB D 9)=cA (aB c.ha)/\W.cell? (eB D 10)=cA (aB c.sg)/\W.cell? (eB D 11)=cA (qA a (zA N.d.fs) e)/\W.cell? (eB D 12)=cA (aB N.d.c)/\W.cell? (eB D 13)=cA (aB N.d.k)/\W.cell? (eB D 14)=cA (aB N.d.cr)/\W.cell? (eB D 15)=cA (aB N.d.fl)/\W.cell? (eB D 16)=cA (sA N.d.dn)/\W.cell? (eB D 17)=cA (aB N.l.first)/\W.cell? (eB D 18)=cA (aB N.l.last)/\W.cell? (eB D 19)=cA (aB N.l.size)/\W.cell? (eB D 20)=cA (aB N.now)/\W.cell? (eB D 21)=cA (qA b (zA N.ts) f)/\W.cell? (eB D 22)=cA (aB N.lsn)/\W.cell? (eB D 23)=cA (sA N.deg)/\W.cell? (eB D 24)=cA (sA N.up)/\W.cell? (eB D 25)=cA (.pointer (vB l)))/\D<W.1.size/\¬D=W.1.size:=
 have:=bB h
 ⟨aNc _ _ h,this,by omega⟩
def aGi{C:fA->Prop}{w:fA}{D:Nat}{x y z A B E F G H I e J K L M N O P Q R S r s u v f g i j l m n T o q a b c d p:jA}{t:kA}(h:jB w D #[x,y,z,A,B,E,F,G,H,I,e,J,K,L,M,N,O,P,Q,R,S,r,s,u,v,p] t)(k:∀W,jB W D #[x,y,z,A,B,E,F,G,H,I,e,f,g,i,j,l,m,n,T,o,q,a,b,c,d,p] t->fB (·=D) w W->C W):C ((((((((((((((w.setCell (eB D 11) f).setCell (eB D 12) g).setCell (eB D 13) i).setCell (eB D 14) j).setCell (eB D 15) l).setCell (eB D 16) m).setCell (eB D 17) n).setCell (eB D 18) T).setCell (eB D 19) o).setCell (eB D 20) q).setCell (eB D 21) a).setCell (eB D 22) b).setCell (eB D 23) c).setCell (eB D 24) d):=
 k _ (by have:=((((((((((((((h.set 11 f).set 12 g).set 13 i).set 14 j).set 15 l).set 16 m).set 17 n).set 18 T).set 19 o).set 20 q).set 21 a).set 22 b).set 23 c).set 24 d);simpa using this) (((((((((((((((fB.refl (·=D) w).setCell (Ca rfl) 11 f).setCell (Ca rfl) 12 g).setCell (Ca rfl) 13 i).setCell (Ca rfl) 14 j).setCell (Ca rfl) 15 l).setCell (Ca rfl) 16 m).setCell (Ca rfl) 17 n).setCell (Ca rfl) 18 T).setCell (Ca rfl) 19 o).setCell (Ca rfl) 20 q).setCell (Ca rfl) 21 a).setCell (Ca rfl) 22 b).setCell (Ca rfl) 23 c).setCell (Ca rfl) 24 d)
def dT(M:sC)(x:Int):Int:=if x=0 then 0 else if x=22\/x=23\/x=21\/x=62 then 2 else if M.up=dA then 4 else 3
def aMc(M:sC)(x:Int):(x==0)=eA/\dT M x=0\/(x==0)=dA/\(((x==22)=eA\/(x==22)=dA/\((x==23)=eA\/(x==23)=dA/\((x==21)=eA\/(x==21)=dA/\(x==62)=eA)))/\dT M x=2\/(x==22)=dA/\(x==23)=dA/\(x==21)=dA/\(x==62)=dA/\(M.up=dA/\dT M x=4\/M.up=eA/\dT M x=3)):=by
 unfold dT;cases M.up<;>grind
section
open Go.Maps
def vo(l m:Nat)(a met:pB)(c:lC)(g:Int)(B:Nat->Prop)(k:List gB)(M:Nat)(w:fA)(h:lE w B l m c g k M)(W:a.size<=maxLen)(H:met.size<=maxLen)(G : -1<=(rB k a).L):
 cF 158 #[.pointer (vB l),pA a,pA met] w (.tuple #[aB (pE c (rB k a) met).1,aB (pE c (rB k a) met).2]):=by
 have f:cB (Calls prog 160 #[.pointer (vB l),pA a] w λe n=>WX c g k l m a w e n):=dr l m a c g B k M w h W;clear h;unfold WX at f;generalize rB k a=t at *;by_cases s:met.toList.isEmpty=eA
 .have o:cB (pE c t met=(((zA t.Z:Nat):Int),if t.L = -1 then c.tl else t.L)):=by
   show _=_;unfold pE;rw[Ma s];by_cases p:t.L = -1
   .rw[Ma p,Ma (by omega)]
   rw[Ja p,Ja (by omega)]
  go_enter func158,ntmps158;go_wp2_with fail;refine f.o.mono ?_;rintro e i ⟨x,b,S,A,rfl,d,r,q⟩;have v:cB (rI 225 #[.pointer (vB l),.pointer (vB x)] i (aB (if t.L = -1 then c.tl else t.L))):=KL l m x c g t S A i r d;obtain⟨P,C,j,N,Q,L,D,d⟩:=d;have c2:yC i x 2 (.map (cA C)):=d.blk.cell 2;have O:=d.Z.len underlying217 3;rw[vM]at O;have J:zA Q=zA t.Z:=by rw[<-d.q1,Xa]
  rw[J]at O;have u:=dB q;clear d r J q f;generalize (if t.L = -1 then c.tl else t.L)=X at *;generalize zA t.Z=h at *;go_wp2_with fail;apply kO v.o;go_wp2;go_ret2;exact⟨eL (by rw[o.o]) (by rw[o.o]),u.o⟩
 .have V:met.toList.isEmpty=dA:=by simpa using s
  have o:cB (pE c t met=(((tI dE t.Z met:Nat):Int),cH t.M met c.ml)):=by show _=_;unfold pE;rw[Ja s]
  go_enter func158,ntmps158;clear s;go_wp2_with fail;refine f.o.mono ?_;rintro e i ⟨x,b,S,A,rfl,d,r,q⟩;have z:cB (∀y:kC i,rI 226 #[.pointer (vB l),.pointer (vB x),pA met] y.w' (aB (cH t.M met c.ml))):=λy=>wT l m x c g t S A met y.w' (r.z y.h) (d.z y.h) H;have E:cB (∀y:kC i,∃j,y.w'.cell? (eB x 3)=cA (.map (cA j))/\(Instr.lookup 216 (.map (cA j)) (pA met) dA).run prog y.w'=.ok (aB (tI dE t.Z met)) y.w'):=λy=>by
   obtain⟨P,C,j,N,Q,L,D,d⟩:=d.z y.h;exact⟨j,d.blk.cell 3,PY d.cnts (d.cnt met) H⟩
  obtain⟨P,C,j,N,Q,L,D,d⟩:=d;have F:yC i x 3 (.map (cA j)):=d.blk.cell 3;have T:=kC.cells F;have K:∀y:kC i,(Instr.lookup 216 (.map (cA j)) (pA met) dA).run prog y.w'=.ok (aB (tI dE t.Z met)) y.w':=λy=>by
   obtain⟨R,p,U⟩:=E.o y;rw[T y]at p;cases p
   exact U
  have u:=dB q;have I:=kC.there i;clear d r q f E F;generalize tI dE t.Z met=Y at *;generalize cH t.M met c.ml=Z at *;go_wp2_with fail;refine zB (by kernel_rfl) (by kernel_rfl) ?_;repeat (go_big_quiet_step (first|(go_at_call 226;exact bD (z.o _))|fail))
  refine wpQuiet_nil ?_;rintro _ ⟨y,rfl⟩;go_wp2;go_ret2;exact⟨eL (by rw[o.o]) (by rw[o.o]),aC u.o y.h⟩
end
section
open Go.Maps
attribute [local go_sem] fG dH jB.drewI
def QT{D l:Nat}{r:eG}{n a b a' b':nC}{m v y ca' cb':Nat}{c:lC}{N M:sC}{x:Int}{w:fA}(h:jB w D (LO r n m c a v b y N l) 84):
 Calls prog 155 #[.pointer (vB D),uA (gC a' ca' b' cb' M),aB x] w λe o=>e=vA (aB (dT M x))/\jB o D (LO r n m c a' ca' b' cb' M l) 84/\fB (·=D) w o:=by
 have q:=dB (aMc M x);have A:=jF a' ca' b' cb' M 42;have B:=dB (fB.of (S:=(·=D)) (zF w (xA (gC a' ca' b' cb' M) 42)));have H:=dB (h.alloc (xA (gC a' ca' b' cb' M) 42));have X:=dB (jB.new w (gC a' ca' b' cb' M) 42);have G:=bB h;generalize dT M x=V at *;clear h;go_enter func155,ntmps155;go_upto_region 1 with fail;generalize w.alloc (xA (gC a' ca' b' cb' M) 42)=W at *;have F:=jI H.o;have E:=λj=>H.o.free j;have p:=X.o;go_upto_region 2 with fail;refine aGi (C:=λW=>Code.wp prog _ _ _ W) H.o ?_;intro s k d;have I:jB s w.1.size (gC a' ca' b' cb' M) 42:=d.blk p (by omega);have z:=dB (Vc k (B.o.trans' d));clear F E p k d H X B;obtain⟨t,rfl⟩|⟨t,⟨f|⟨f,g|⟨g,i|⟨i,u⟩⟩⟩,rfl⟩|⟨f,g,i,u,⟨m,rfl⟩|⟨m,rfl⟩⟩⟩:=q.o
 all_goals
  (try rw[m]at A);go_wp2;go_ret;exact⟨rfl,z.o⟩
end
def aKj{c:lC}{N:sC}(h:lG c=dA):DJ c N=(bL,61):=by unfold DJ;rw[Ma h]
theorem jW:∀(a:List cC)(i:Nat),fD a i=aA ↔ ∀l∈a,xQ l=0
 |[],i=>by simp[fD]
 |l::r,i=>by
  rw[fD];by_cases h:xQ l=0
  .rw[Ma h,jW r (i+1)];simp[h]
  rw[Ja h];simp[h]
theorem AT:∀(b:List cC)(i c k:Nat),fD b i=cA (c,k)->c≠0
 |[],i,c,k,h=>by simp[fD]at h
 |l::r,i,c,k,h=>by
  rw[fD]at h;by_cases a:xQ l=0
  .rw[Ma a]at h;exact AT r _ c k h
  rw[Ja a]at h;simp only[Qa,Dc]at h;omega
theorem OQ:∀(r a:List cC)(i:Nat),iU (a++r)->pF a r i=aA
 |[],_,_,_=>by simp[pF]
 |l::r,a,i,h=>by
  rw[pF];have c:¬a.any (λx=>rR x l)=eA:=by
   intro b;rw[Zd]at b;obtain⟨x,d,e⟩:=b;unfold iU at h;rw[Ae]at h;exact h.2.2 x d l (by simp) ((WD _ _).1 e)
  rw[Ja c];exact OQ r _ _ (by simpa using h)
def NI{a:List cC}(b:zA a<=16)(c:∀l∈a,xQ l=0)(d:iU a)(e:vR a=eA):wB a=(mG [] a,0,0):=by grind [NK,jW,OQ]
def ve{a:List cC}(h:(wB a).2.1=0):zA a<=16/\(∀l∈a,xQ l=0)/\iU a/\vR a=eA:=by grind [wB,xQ,iU,vR,fD,pF,BQ,qZ,AT,iY,IA,jW,sk]
def yu{b a:List cC}(c:a.Perm b)(h:iU b):iU a:=by
 unfold iU at *;exact(c.pairwise_iff (fun{x y} e=>Ne.symm e)).2 h
def lz{a:List cC}(h:(wB a).2.1=0):wB (wB a).1=((wB a).1,0,0):=by
 obtain⟨m,g,i,j⟩:=ve h;rw[NI m g i j];simp only;have d:(mG [] a).Perm (uL a):=(tL a []).trans (by rw[Mb]);have k:∀l∈mG [] a,l∈a/\sS l=dA:=λl c=>by
  have:=De.1 (d.mem_iff.1 c);exact⟨this.1,by simpa using this.2⟩
 have b:iU (mG [] a):=yu d (i.sublist Pf);have n:uL (mG [] a)=mG [] a:=by
  unfold uL;rw[Jc];intro l c;rw[(k l c).2];rfl
 have f:vR (mG [] a)=eA:=by
  unfold vR at *;rw[Zd]at *;obtain⟨x,o,e⟩:=j;refine⟨x,d.mem_iff.2 (De.2 ⟨o,?_⟩),e⟩;simp only[Sa]at e;exact e.1
 rw[NI (by rw[d.length_eq];have:=zZ a;omega) (λl c=>g l (k l c).1) b f];congr 1;exact(WG b (by rw[n]) (qU a [] Gd)).symm
def dt{a:List cC}(h:(wB a).2.1=0):jO (wB a).1=eA:=by
 unfold jO;rw[lz h];simp[bX]
def du{a:List cC}(h:(wB a).2.1=0):uI (wB a).1=aI (wB a).1/\wG (aI (wB a).1)=((wB a).1,eA):=⟨by unfold uI;rw[Ma (dt h)],da (dt h)⟩
def YR{w:fA}{g f h i j k:Nat}{l m n o p:jA}:w.cell? (eB g f)=cA l/\w.cell? (eB g h)=cA m/\w.cell? (eB g i)=cA n/\w.cell? (eB g j)=cA o/\w.cell? (eB g k)=cA p->(∀x:kC w,x.w'.cell? (eB g f)=cA l)/\(∀x:kC w,x.w'.cell? (eB g h)=cA m)/\(∀x:kC w,x.w'.cell? (eB g i)=cA n)/\(∀x:kC w,x.w'.cell? (eB g j)=cA o)/\∀x:kC w,x.w'.cell? (eB g k)=cA p:=
 fun⟨a,b,c,d,e⟩=>⟨kC.cells a,kC.cells b,kC.cells c,kC.cells d,kC.cells e⟩
def ns(r:eG)(a:nC)(k:Nat)(w:fA)(o:oJ w a r.P)(h:VR r)(C:oR w):
 cF 78 #[uA #[aB r.K,pA r.T,pA r.R,aB r.U,qA a (zA r.P) k]] w (pA (wK r)):=by
 obtain⟨s,Q⟩:=h.bulk;have P:=h.sz;have D:=h.ok.1;obtain⟨i,N⟩:∃i:Nat,r.K=(i:Int):=⟨r.K.toNat,by omega⟩
 have q:=dB (jB.new w #[aB r.K,pA r.T,pA r.R,aB r.U,qA a (zA r.P) k] 47);have m:=dB (zF w (xA #[aB r.K,pA r.T,pA r.R,aB r.U,qA a (zA r.P) k] 47));have z:=dB (λW=>UZ D W);have v:=dB (λW=>aGx a k W h.ok);have u:=dB (λW(l:xB w W)=>XN r a k W (o.z l) h.ok);have B:=dB (λW(l:xB w W)=>ao r a k W (o.z l) (by omega));have J:=dB (λW(l:xB w W)=>mv r a k W (o.z l) (by omega) h.ok);have A:cB (∀W,xB w W->yC W 0 (i*5) (sA (yU i))/\yC W 0 (i*5+1) (sA ((i:Int)==1))/\yC W 0 (i*5+2) (sA (xU i))/\yC W 0 (i*5+3) (sA (kV i))/\yC W 0 (i*5+4) (sA ((i:Int)==1||(i:Int)==2||(i:Int)==3||(i:Int)==4))):=λW l=>have t:=λj O=>(C.z l).2 i j (by omega) O;⟨t 0 (by omega),t 1 (by omega),t 2 (by omega),t 3 (by omega),t 4 (by omega)⟩;clear o C h s;unfold shV at *;generalize wK r=S at *;generalize r.T.size+r.R.size+fQ r.P=T at *;have U:(i:Int)<7:=by omega
 clear D;rw[N]at *;go_enter func78,ntmps78;go_upto_region 1 with fail;generalize w.alloc (xA #[aB i,pA r.T,pA r.R,aB r.U,qA a (zA r.P) k] 47)=K at *;have n:=kC.there K;obtain⟨E,F,G,H,I⟩:=YR q.o.c5;obtain⟨b,c,d,f,g⟩:=YR (A.o _ m.o);go_wp2_with fail;refine zB (by kernel_rfl) (by kernel_rfl) ?_;repeat (go_big_quiet_step (first|exact oC (z.o _)|exact oC (v.o _)|exact oC (u.o _ (aC m.o (kC.h _)))|exact oC (B.o _ (aC m.o (kC.h _)))))
 refine wpQuiet_nil ?_;rintro _ ⟨x,rfl⟩;have p:=dB (aC m.o x.h);have M:=dB (q.o.z x.h);clear z v u B E F G H I b c d f g n q m;generalize x.w'=L at *;have n:=kC.there L;obtain⟨E,F,G,H,I⟩:=YR M.o.c5;obtain⟨b,c,d,f,g⟩:=YR (A.o _ p.o);go_wp2_with fail;refine zB (by kernel_rfl) (by kernel_rfl) ?_;repeat (go_big_quiet_step (exact oC (J.o _ (aC p.o (kC.h _)))))
 refine wpQuiet_nil ?_;rintro _ ⟨y,rfl⟩;go_wp2;go_ret;exact⟨rfl,aC p.o y.h⟩
def cg(p q:jA)(w:fA):
 CallsD prog 75 #[p,q] .returning w λe c d=>e=vA (.tuple #[])/\c=.returning/\d=w:=by
 refine callsD_of_wpS func75 rfl λa cs b=>?_;apply wpS_seq;apply wpS_region;simp[wpOpsS,go_sem,recoverD,b,ntmps75,Exit.thenS];refine wpS_cond (t:=dA) (by simp[Act.eval,Array.replicate]) ?_;simp only[Bd,Cf];refine wpS_of_wp (wp_skip ?_);cases a
 simp_all[bodyPostS,results,results75]
structure DB(w W:World)(cs:Array Value)(av:nC)(xs:List oF):Prop where
 R:jB W w.1.size cs 47
 K:jB W (w.1.size+1) #[sA dA] 4
 O:aH W (w.1.size+1+1) av xs
 N:xB w W
section
variable {w W W':fA} {cs:Array jA} {av:nC} {xs:List oF}
theorem DB.z(h:DB w W cs av xs)(a:xB W W'):DB w W' cs av xs:=⟨h.R.z a,h.K.z a,h.O.z a,aC h.N a⟩
theorem DB.set(h:DB w W cs av xs)(i:Nat)(v:jA):DB w (W.setCell (eB w.1.size i) v) (cs.setIfInBounds i v) av xs:=
 have a:sD w.1.size W (W.setCell (eB w.1.size i) v):=(sD.refl _ _).setCell i v
 ⟨h.R.set i v,h.K.but a (by omega),h.O.but a (by omega),h.N.setCell (by simp) _⟩
end
def ef(r:eG)(w:fA)(h:VR r)(x:oR w):Calls prog 24 #[pA (wK r)] w λe L=>bj r w e L:=by
 obtain⟨g,d⟩:∃g,((w.alloc (xA #[aB 0,pA lA,pA lA,aB 0,qA aA 0 0] 47)).alloc (xA #[sA dA] 4))=g:=⟨_,rfl⟩
 have j:g.1.size=w.1.size+1+1:=by rw[<-d];simp
 have y:xB w g:=d ▸ aC bC bC;have B:DB w g #[aB 0,pA lA,pA lA,aB 0,qA aA 0 0] aA []:=⟨d ▸ (jB.new _ _ _).alloc _,by have:=jB.new (w.alloc (xA #[aB 0,pA lA,pA lA,aB 0,qA aA 0 0] 47)) #[sA dA] 4;rw[<-d];simpa using this,Ca rfl,y⟩
 have c:=zF g (xA #[pA (wK r),sA dA] 166);have X:=jB.new g #[pA (wK r),sA dA] 166;rw[j]at X;have l:=dB (aEr h X (x.z (aC y c)) (by have:=x.1;omega));have C:cB (∀k av,sD (w.1.size+1+1) (g.alloc (xA #[pA (wK r),sA dA] 166)) k->aH k (g.alloc (xA #[pA (wK r),sA dA] 166)).1.size av r.P->DB w k #[aB 0,pA lA,pA lA,aB 0,qA aA 0 0] av r.P):=λk av A J=>
  have z:=B.z c
  ⟨z.R.but A (by omega),z.K.but A (by omega),J.mono (by simp[j]),z.N.trans (A.below (by omega) (by simp[j];omega))⟩
 have m:=dB (λW av i(H:oJ W av r.P)(I:xB w W)=>ns r av i W H h (x.z I));unfold bj;clear h x X c B y;generalize wK r=s at *;subst d;generalize r.P=xs at *;generalize r.K=K at *;generalize r.T=G at *;generalize r.R=E at *;generalize r.U=F at *;clear j;go_enter_defers func24,ntmps24;go_wp2_with fail;refine l.o.mono ?_;rintro e k ⟨av,i,rfl,o,c⟩;have D:=dB (C.o k av c o);clear o c l C;obtain⟨p,q,t,u,v⟩:=D.o.R.c5;have a:=D.o.R.free;go_wp2_with fail;replace D:=dB (((((D.o.set 0 (aB K)).set 1 (pA G)).set 2 (pA E)).set 3 (aB F)).set 4 (qA av (zA xs) i));clear p q t u v a;generalize (((((k.setCell (eB w.1.size 0) (aB K)).setCell (eB w.1.size 1) (pA G)).setCell (eB w.1.size 2) (pA E)).setCell (eB w.1.size 3) (aB F)).setCell (eB w.1.size 4) (qA av (zA xs) i))=Q at *;obtain⟨p,q,t,u,v⟩:=D.o.R.c5;try go_wp2_with fail
 apply jC (m.o _ _ _ D.o.O.P D.o.N);intro T n;replace D:=dB (D.o.z n);clear n m p q t u v;obtain⟨p,q,t,u,v⟩:=D.o.R.c5;have a:=D.o.R.free;have P:=D.o.K.cell 0;have b:=D.o.K.free 0;go_wp2_with fail;refine rD (MK _ _) ?_;go_wp2;refine leaves_cons (f:=75) (args:=#[.pointer (vB w.1.size),.pointer (vB (w.1.size+1))]) (by simp) (by simp[go_sem]) ?_;refine(cg _ _ _).mono ?_;rintro e S M ⟨rfl,rfl,rfl⟩;simp[Leaves,settle,results,results24,go_sem,p,q,t,u,v,P];exact⟨((((((D.o.O.but ((sD.refl w.1.size _).setCell 0 _) (by omega)).but ((sD.refl w.1.size _).setCell 1 _) (by omega)).but ((sD.refl w.1.size _).setCell 2 _) (by omega)).but ((sD.refl w.1.size _).setCell 3 _) (by omega)).but ((sD.refl w.1.size _).setCell 4 _) (by omega)).but ((sD.refl (w.1.size+1) _).setCell 0 _) (by omega)).mono (by omega),((((((D.o.N.setCell (by simp) _).setCell (by simp) _).setCell (by simp) _).setCell (by simp) _).setCell (by simp) _).setCell (by simp) _)⟩
