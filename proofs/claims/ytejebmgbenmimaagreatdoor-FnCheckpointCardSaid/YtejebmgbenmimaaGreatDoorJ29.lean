import Derived.Test.YtejebmgbenmimaaGreatDoorJ27
import Derived.Test.YtejebmgbenmimaaGreatDoorJ26
import Derived.Test.YtejebmgbenmimaaGreatDoorJ24
set_option maxRecDepth 100000
set_option maxHeartbeats 8000000
set_option linter.defProp false
open Option renaming some->fA,none->eA
open ByteArray renaming empty->pA
open Bool renaming true->iA,false->gA
open List renaming length->cB
namespace Go.Proofs.YtejebmgbenmimaaGreatDoor
open Go renaming World->jA,Value->mA,TypeId->oA
open Value renaming string->tA,agg->yA,slice->uA,bool->vA
open Obj renaming cells->aB
open Ending renaming returned->zA
open Go.RowKit Tryz
def aHv(a:List tE):Prop:=∀i(h:i<cB a),a[i].T.size<=1000000000/\a[i].X.size<=1000000000
def cu(v:Int)(w:jA):gF 28 #[dB v] w (tA (uB 1 v)):=by
 have c:=gB (oH 1 v w (by omega));generalize uB 1 v=N at *;go_enter func28,ntmps28;go_wp2_with fail;apply oC c.o;intro f a;have b:=gB a;clear a;go_wp2;go_ret;exact⟨rfl,b.o⟩
def ct(v:Int)(w:jA):gF 114 #[dB v] w (tA (uB 2 v)):=by
 have c:=gB (oH 2 v w (by omega));generalize uB 2 v=N at *;go_enter func114,ntmps114;go_wp2_with fail;apply oC c.o;intro f a;have b:=gB a;clear a;go_wp2;go_ret;exact⟨rfl,b.o⟩
def JQ(v:Int)(w:jA):gF 105 #[dB v] w (tA (uB 8 v)):=by
 have c:=gB (oH 8 v w (by omega));generalize uB 8 v=N at *;go_enter func105,ntmps105;go_wp2_with fail;apply oC c.o;intro f a;have b:=gB a;clear a;go_wp2;go_ret;exact⟨rfl,b.o⟩
def uq:(prog.info? 9).map (λi=>(i.zero,i.size,i.bytes))=fA (fA (tA pA),1,16):=by kernel_rfl
def jZ(a:List tE):List vB:=a.flatMap λr=>[uB 1 r.K,vM r.T,eG r.X,uB 8 r.U]
def fk(a:List tE)(k:Nat)(h:k<cB a):jZ (a.take (k+1))=jZ (a.take k)++[uB 1 a[k].K,vM a[k].T,eG a[k].X,uB 8 a[k].U]:=by
 unfold jZ;rw[Pa h,He];rfl
def MV:∀(a:List tE),xF (jZ a)=uM a
 |[]=>rfl
 |r::q=>by
  have e:jZ (r::q)=[uB 1 r.K,vM r.T,eG r.X,uB 8 r.U]++jZ q:=rfl;rw[e,oG,MV q,uM];simp[xF,WW,Wa]
theorem ch(d:Int)(a:Option Addr)(t:Nat)(c:List tE)(w:World)(hf:lI w a c)(hB:aHv c)(hlen:c.length<=2000000):
 Calls prog 42 #[.agg #[.int .i64 d,.slice a c.length t]] w λe f=>e=.returned (.string (aN d c))/\Below w.1.size w f:=by
 have z:(d<1\/¬d<1/\d > 1000000000000000\/(¬d<1/\¬d > 1000000000000000)/\(c.length:Int)<1\/(¬d<1/\¬d > 1000000000000000)/\¬(c.length:Int)<1/\(c.length:Int) > 500)\/(¬d<1/\¬d > 1000000000000000)/\¬(c.length:Int)<1/\¬(c.length:Int) > 500:=by omega
 obtain z|⟨⟨Z,c2⟩,c3,c4⟩:=z
 .have E:=gB (LL (lsn:=d) (rs:=c) λh=>by obtain⟨h1,h2,h3,h4,-⟩:=h;omega);rw[E.o];clear hf hB;obtain Z|⟨Z,c2⟩|⟨⟨Z,c2⟩,c3⟩|⟨⟨Z,c2⟩,c3,c4⟩:=z
  all_goals
   go_enter func42,ntmps42;go_wp2;go_ret;exact⟨rfl,aC⟩
 have HF:fB (lI w a c):=hf;have HB:fB (aHv c):=hB;have O:fB _:=λW=>JQ d W;have N:fB _:=λW=>ct (c.length:Nat) W;have hz8:=oB 8 d;have hz2:=oB 2 (c.length:Nat);have HKB:fB (eY d c->aN d c=uB 8 d++uB 2 (c.length:Nat)++uM c):=λh=>LM h;have HOK:fB (ri c->eY d c):=λh=>⟨by omega,by omega,by omega,by omega,h⟩
 generalize uB 8 d=N8 at *;generalize uB 2 (c.length:Nat)=N2 at *;clear hf hB;go_enter func42,ntmps42;go_upto_region 3 with fail;have X6:fB (rB (w.alloc (.cells #[.int .i64 d,.slice a c.length t] 121)) w.1.size #[.int .i64 d,.slice a c.length t] 121):=rB.new _ _ _;have B0:fB (Below w.1.size w (w.alloc (.cells #[.int .i64 d,.slice a c.length t] 121))):=aC;generalize w.alloc (.cells #[.int .i64 d,.slice a c.length t] 121)=J at *;have D:fB (∀f,Below J.1.size J f->f.cell? ⟨w.1.size,0,none⟩=some (.int .i64 d)/\f.cell? ⟨w.1.size,1,none⟩=some (.slice a c.length t)):=λf h=>by
  have q:=X6.o.z h;exact⟨q.cell 0,q.cell 1⟩
 obtain⟨x0,x1⟩:=D.o J jD;go_cut [3] (λs wx=>∃g,s=.slice (some ⟨g,0,none⟩) 2 2/\J.1.size<=g/\wx.heap[g]?=some (.cells #[.string N8,.string N2] 9 (0,0))/\Below J.1.size J wx)
 case first=>
  go_region_held3 (λf=>f.cell? ⟨w.1.size,0,none⟩=some (.int .i64 d)/\f.cell? ⟨w.1.size,1,none⟩=some (.slice a c.length t))
   (first|go_keep|exact D.o _ k4|exact D.o _ k3)
   (first
    |(go_at_call 105;refine(O.o _).mono ?_;rintro e w3 ⟨rfl,U⟩;have k3:Below J.1.size J w3:=(by exact xB jD.drew U))
    |(go_at_call 114;refine(N.o _).mono ?_;rintro e w4 ⟨rfl,V⟩;have k4:Below J.1.size J w4:=(by exact xB k3 V)))
  all_goals(go_wp2_with fail;go_meet)
  all_goals exact⟨_,rfl,k4.size,heap_alloc_new _ _,xB k4 aC⟩
 obtain⟨g0,rfl,hg0,C,Y⟩:=hcut;rename World=>w5;have B5:fB _:=xB B0.o Y;have HBL:fB (w5.heap[g0]?=some (.cells #[.string N8,.string N2] 9 (0,0))/\w.1.size<=g0):=⟨C,Ua B0.o.size hg0⟩
 have HK5:fB _:=λf h=>D.o f (xB Y h);obtain⟨y0,y1⟩:=HK5.o w5 jD;clear x0 x1 D X6 C hg0 Y B0 O N HK5;go_wp2;go_loopw [3,5,37] (λout _ i wr=>∃(k:Nat)(l:List ByteArray)(g cv:Nat),k<=c.length/\i=.int .i64 k/\out=.slice (some ⟨g,0,none⟩) l.length cv/\l.length<=2+4*k/\jG l<=10+k*3000000000/\fB (l=N8::N2::jZ (c.take k))/\fB (∀j(h:j<c.length),j<k->qO c[j])/\fB (wr.ownsRow w.1.size 9 1 (.slice (some ⟨g,0,none⟩) l.length cv) l.length (l.map Value.string))/\Below w.1.size w wr) (λ_ _ i _=>c.length-(intOf i).toNat)
 case atStart=>
  exact⟨0,[N8,N2],_,_,Oa _,rfl,rfl,by simp,by simp[jG];omega,rfl,λj _ h=>absurd h (by omega),⟨rfl,La ⟨g0,2,_,rfl,HBL.o.2,HBL.o.1,Ia _,by simp[maxLen],rfl,rfl⟩⟩,B5.o⟩
 case round=>
  obtain⟨k,l,g,cv,hk,rfl,rfl,hpl,hps,HPS,x,n,p⟩:=hrel;by_cases M:k<c.length
  .obtain ⟨b,o,rfl,hb,c0,Z,c2,c3⟩:=(HF.o.z p).at M;obtain⟨hn1,hn2⟩:=HB.o k M;have y:fB (∀W,Calls prog 115 #[.agg #[.int .i64 c[k].K,.string c[k].T,.string c[k].X,.int .i64 c[k].U]] W λe f=>e=.returned (.bool (ZX c[k]))/\Below W.1.size W f):=λW=>uw c[k] W hn1 hn2;by_cases A:qO c[k]
   .rw[UQ A]at y;have HK1:fB (∀W,Calls prog 28 #[.int .i64 c[k].K] W λe f=>e=.returned (.string (uB 1 c[k].K))/\Below W.1.size W f):=λW=>cu _ W;have HS8:fB _:=λW=>sS c[k].T W hn1;have HS16:fB _:=λW=>jL c[k].X W hn2;have HN8:fB (∀W,Calls prog 105 #[.int .i64 c[k].U] W λe f=>e=.returned (.string (uB 8 c[k].U))/\Below W.1.size W f):=λW=>JQ _ W;have hq1:=oB 1 c[k].K;have hq2:=sF c[k].T;have hq3:=kF c[k].X;have hq4:=oB 8 c[k].U;have HA2:fB (∀j(h:j<c.length),j<k+1->qO c[j]):=λj h hj=>by
     rcases Gc j k with h1|h1
     .exact x.o j h h1
     .obtain rfl:j=k:=by omega
      exact A
    have HT:=fk c k M;have E2:fB (l++[uB 1 c[k].K,vM c[k].T,eG c[k].X,uB 8 c[k].U]=N8::N2::jZ (c.take (k+1))):=by show _=_;rw[HT,HPS.o];rfl
    clear HT A x;generalize uB 1 c[k].K=F at *;generalize vM c[k].T=G at *;generalize eG c[k].X=H at *;generalize uB 8 c[k].U=I at *;generalize c[k].K=ki at *;generalize c[k].T=te at *;generalize c[k].X=tx at *;generalize c[k].U=nu at *;have S:=gB (rB.new wr #[.int .i64 ki,.string te,.string tx,.int .i64 nu] 56);have hgB:=(cH n.o).2.1;have HBW:=gB (uF wr (.cells #[.int .i64 ki,.string te,.string tx,.int .i64 nu] 56));go_wp2_with fail;refine(y.o _).mono ?_;rintro e W ⟨rfl,u⟩;have D:=gB (λf(h:Below W.1.size W f)=>(S.o.z u).z h);have X:=xB HBW.o u;have T:=gB (show W.ownsRow w.1.size 9 1 (.slice (some ⟨g,0,none⟩) l.length cv) l.length (l.map Value.string)/\Below w.1.size w W from⟨lC n.o X,xB p X⟩);have hBX:=eB (S.o.z u);have hww:=T.o.2.size;clear n S hb c0 Z c2 c3 p u y X HBW;go_wp2_with fail;generalize wr.1.size=K at *;clear wr;have r:fB (∀f,Below W.1.size W f->f.cell? ⟨K,0,none⟩=some (.int .i64 ki)/\f.cell? ⟨K,1,none⟩=some (.string te)/\f.cell? ⟨K,2,none⟩=some (.string tx)/\f.cell? ⟨K,3,none⟩=some (.int .i64 nu)):=λf h=>⟨(D.o f h).cell 0,(D.o f h).cell 1,(D.o f h).cell 2,(D.o f h).cell 3⟩
    obtain⟨x0,x1,x2,x3⟩:=r.o W jD;go_region_held3 (λf=>f.cell? ⟨K,0,none⟩=some (.int .i64 ki)/\f.cell? ⟨K,1,none⟩=some (.string te)/\f.cell? ⟨K,2,none⟩=some (.string tx)/\f.cell? ⟨K,3,none⟩=some (.int .i64 nu))
     (first|go_keep|exact R|exact r.o _ (m.alloc m.size _)|exact r.o _ m|exact r.o _ hc3|exact r.o _ hc2|exact r.o _ hc1)
     ((first
       |(go_at_call 28;refine(HK1.o _).mono ?_;rintro e w1 ⟨rfl,hb1⟩;have hc1:Below W.1.size W w1:=(Below.refl _ W).drew.trans hb1)
       |(go_at_call 116;refine(HS8.o _).mono ?_;rintro e w2 ⟨rfl,L⟩;have hc2:=xB hc1 L)
       |(go_at_call 117;refine(HS16.o _).mono ?_;rintro e w3 ⟨rfl,U⟩;have hc3:=xB hc2 U)
       |(go_at_call 105;refine(HN8.o _).mono ?_;rintro e w4 ⟨rfl,V⟩;have m:=xB hc3 V)
       |(refine eS (by rfl) _ _ (by rfl) underlying30 uq rfl (by omega) (by omega) (B:=w.1.size) (by rfl) (by exact lC (lC T.o.1 m) aC) [.string F,.string G,.string H,.string I] (by rfl) rfl (by exact La ⟨_,rfl,World.news_of_block (cs:=#[.string F,.string G,.string H,.string I]) (heap_alloc_new _ _)⟩) (by simp[Value.oneCell']) (by omega) (by have:=m.size;simp;omega) ?_;intro g5 P w5 v hB5 hk5 _;have R:=(SF (hk5 K (by have:=m.size;simp;omega) (by omega)) (r.o _ (m.alloc m.size (.cells #[.string F,.string G,.string H,.string I] 9)))))))
    have hle:(l++[F,G,H,I]).length=l.length+4:=by simp
    have hsm:jG (l++[F,G,H,I])=jG l+(F.size+(G.size+(H.size+I.size))):=by rw[vH];simp[jG]
    rw[<-hle]at v |-
    have HO5:=gB (show w5.ownsRow w.1.size 9 1 (.slice (some ⟨g5,0,none⟩) (l++[F,G,H,I]).length P) (l++[F,G,H,I]).length ((l++[F,G,H,I]).map Value.string)/\Below w.1.size w w5 from⟨by rw[Ld];exact v,((xB T.o.2 m).alloc (Ua hww m.size) _).trans hB5⟩);clear v hB5 hk5 R;generalize l++[F,G,H,I]=ps5 at *;go_wp2;exact⟨⟨k+1,ps5,g5,P,by omega,by go_num,rfl,by omega,by omega,E2.o,HA2.o,HO5.o.1,HO5.o.2⟩,by simp[intOf];omega⟩
   .have E:fB _:=ou M A d;rw[BD A]at y;generalize c[k].K=ki at *;generalize c[k].T=te at *;generalize c[k].X=tx at *;generalize c[k].U=nu at *;clear A x n;go_wp2_with fail;refine(y.o _).mono ?_;rintro e W ⟨rfl,u⟩;have BW:fB _:=xB (xB p aC) u;clear u y;go_wp2;go_ret;exact⟨by rw[E.o];rfl,BW.o⟩
  .have Q:ri c:=λj h=>x.o j h (by omega);have E2:fB (xF l=aN d c):=by
    show _=_;rw[HPS.o,Ra (by omega),xF,xF,MV,HKB.o (HOK.o Q),Wa]
   obtain⟨hcv,hg,z⟩:=cH n.o;have HJ:fB (Calls prog 108 #[.slice (some ⟨g,0,none⟩) l.length cv] wr λe f=>e=.returned (.string (xF l))/\Below wr.1.size wr f):=mI g l.length cv l wr rfl z hg hcv (by omega) (by omega);rw[E2.o]at HJ;clear n z Q;go_wp2_with fail;refine HJ.o.mono ?_;rintro e w2 ⟨rfl,L⟩;have B2:fB _:=xB p L;clear L;go_wp2;go_ret;exact⟨rfl,B2.o⟩
def jd{x b a:Int}(h:dC x b a=iA):b<=x/\x<=a:=by simpa[dC]using h
structure NP(w W:World)(c:kC)(cs:Array Value):Prop where
 C:rB W w.1.size #[dB c.w,dB c.tl,dB c.ml,dB c.sh,dB c.ha,dB c.sg] 24
 N:rB W (w.1.size+1) cs 42
 R:rB W (w.1.size+1+1) (sC eA 0 eA 0 yN) 42
 B:zB w W
section
variable {w W W':jA} {c:kC} {cs cs':Array mA}
theorem NP.new:NP w (((w.alloc (aB #[dB c.w,dB c.tl,dB c.ml,dB c.sh,dB c.ha,dB c.sg] 24)).alloc (aB cs 42)).alloc (aB (sC eA 0 eA 0 yN) 42)) c cs:=
 ⟨((rB.new _ _ _).alloc _).alloc _,by have:=(rB.new (w.alloc (aB #[dB c.w,dB c.tl,dB c.ml,dB c.sh,dB c.ha,dB c.sg] 24)) cs 42).alloc (aB (sC eA 0 eA 0 yN) 42);simpa using this,
   by have:=rB.new ((w.alloc (aB #[dB c.w,dB c.tl,dB c.ml,dB c.sh,dB c.ha,dB c.sg] 24)).alloc (aB cs 42)) (sC eA 0 eA 0 yN) 42;simpa using this,xB (xB aC aC) aC⟩
theorem NP.z(h:NP w W c cs)(a:zB W W'):NP w W' c cs:=⟨h.C.z a,h.N.z a,h.R.z a,xB h.B a⟩
theorem NP.put(h:NP w W c cs)(b:rB W' (w.1.size+1) cs' 42)(a:jB (·=w.1.size+1) W W'):NP w W' c cs':=
 ⟨a.blk h.C (by omega),b,a.blk h.R (by omega),h.B.trans (a.below h.B.size λk d e=>by omega)⟩
theorem NP.lt(h:NP w W c cs):w.1.size+1+1<W.1.size:=eB h.R
theorem NP.cells(h:NP w W c cs)(a:cs.size=14):W.cell? (iB w.1.size 0)=fA (dB c.w)/\W.cell? (iB w.1.size 1)=fA (dB c.tl)/\W.cell? (iB w.1.size 2)=fA (dB c.ml)/\W.cell? (iB w.1.size 3)=fA (dB c.sh)/\W.cell? (iB w.1.size 4)=fA (dB c.ha)/\W.cell? (iB w.1.size 5)=fA (dB c.sg)/\rB W (w.1.size+1) cs 42/\dL W (w.1.size+1)/\dL W (w.1.size+1+1)/\w.1.size<W.1.size/\w.1.size+1<W.1.size/\w.1.size+1+1<W.1.size/\¬w.1.size=W.1.size/\¬w.1.size+1=W.1.size/\¬w.1.size+1+1=W.1.size:=
 have:=h.lt
 ⟨h.C.cell 0,h.C.cell 1,h.C.cell 2,h.C.cell 3,h.C.cell 4,h.C.cell 5,h.N,h.N.box a,h.R.box rfl,by omega,by omega,this,by omega,by omega,by omega⟩
end
def ai{a:List tE}(h:iD a<=1400000):aHv a:=λi b=>by
 have d:=yT a i b;have e:=oX a (i+1);omega
def uo:(prog.info? 42).map (·.size)=fA 14:=by kernel_rfl
def MJ(M:vC)(x:mA)(w:jA)(e:Ending)(c:jA):Prop:=
 ∃a f b g,e=zA (.tuple #[yA (sC a f b g M),x])/\wB c a M.d.fs/\uC c b M.ts/\zB w c
def oi(V:vC×Int)(w:jA)(e:Ending)(a:jA):Prop:=MJ V.1 (dB V.2) w e a
def nz{b:Func}{a:Act}{W:jA}{R i j:Nat}{cs:Array mA}{T:oA}{x:mA}(h:b.results=#[.cell i 42,.tmp j])(c:a.tmps.getD i undef=.pointer (cC R))(d:a.tmps.getD j undef=x)(e:rB W R cs T)(f:C14 cs):(results b a.tmps).run prog W=.ok (.tuple #[yA cs,x]) W:=by
 have:=run_loadVar_row (P:=prog) W R T 42 cs (0,0) _ e underlying42 rfl (by rw[uo,f.size]);simp at c d;simp[results,h,c,d,asAddr,this]
def aU{l:Func}{t:Act}{w W:jA}{R i j:Nat}{cs:Array mA}{T:oA}{M:vC}{x:mA}{a b:nC}{f g:Nat}(h:l.results=#[.cell i 42,.tmp j])(o:t.tmps.getD i undef=.pointer (cC R))(p:t.tmps.getD j undef=x)(u:t.defers=[])(c:rB W R cs T)(n:∀(j:Nat)(s:vB),cs[j]?≠fA (mA.string s))(z:w.1.size<=R)(m:zB w W)(q:wB W a M.d.fs)(r:uC W b M.ts):bodyPost prog l (λe v=>MJ M x w e v) .ret t (W.setRow R (sC a f b g M)):=
 bodyPost_ret (nz h o p c.row (jH _ _ _ _ _)) u ⟨a,f,b,g,rfl,q.store c n (eH _ _ _),r.store c n (eH _ _ _),m.trans ((eH _ _ _).below m.size λk y e=>by omega)⟩
def YQ{g:Func}{t:Act}{w W:jA}{i j:Nat}{c:kC}{cs:Array mA}{V:vC×Int}{M:vC}{f:Int}{a b:nC}{ca cb:Nat}(h:g.results=#[.cell i 42,.tmp j])(k:t.tmps.getD i undef=.pointer (cC (w.1.size+1+1)))(l:t.tmps.getD j undef=dB f)(o:t.defers=[])(P:NP w W c cs)(E:V=(M,f))(m:wB W a M.d.fs)(n:uC W b M.ts):bodyPost prog g (λe p=>oi V w e p) .ret t (W.setRow (w.1.size+1+1) (sC a ca b cb M)):=by
 subst E;exact aU h k l o P.R (dG _ _ _ _ _) (by omega) P.B m n
section
open Go.Maps
attribute [local go_sem] lG jH uK rB.drewI dL.drewI dL.new dL.alloc dL.alloc2
def xG(n:Int)(w:jA)(b : -9223372036854775808<=n)(c:n<=9223372036854775807):gF 64 #[dB n] w (tA (uB 1 n)):=by
 have H:=gB (λW=>oD 1 n W (by omega) b c);go_enter func64,ntmps64;go_wp2_with fail;apply oC (H.o _);intro f a;replace a:=gB a;go_wp2;go_ret;exact⟨rfl,a.o⟩
def cN(N:vC)(a:Int)(b:vB):vB:=if a=0 then b else if a=22\/a=23\/a=21\/a=62 then uB 1 2 else if N.up=gA then uB 1 4 else uB 1 3
def aJj{N:vC}{code:Int}{reply:vB}:(code==0)=iA/\cN N code reply=reply\/(code==0)=gA/\(((code==22)=iA\/(code==22)=gA/\((code==23)=iA\/(code==23)=gA/\((code==21)=iA\/(code==21)=gA/\(code==62)=iA)))/\cN N code reply=uB 1 2\/(code==22)=gA/\(code==23)=gA/\(code==21)=gA/\(code==62)=gA/\(N.up=gA/\cN N code reply=uB 1 4\/N.up=iA/\cN N code reply=uB 1 3)):=by
 unfold cN;by_cases a:code=0
 .exact Ca ⟨by simpa using a,Ma a⟩
 refine La ⟨by simpa using a,?_⟩;rw[Ja a];by_cases b:code=22\/code=23\/code=21\/code=62
 .exact Ca ⟨by rcases b with h|h|h|h<;>simp[h],Ma b⟩
 refine La ⟨by simp;omega,by simp;omega,by simp;omega,by simp;omega,?_⟩;rw[Ja b];cases N.up
 .exact Ca ⟨rfl,Ma rfl⟩
 exact La ⟨rfl,Ja (by simp)⟩
def vW(a b:nC)(g i:Nat)(N:vC)(f:Int)(c:vB)(w:jA)(r:wB w a N.d.fs)(s:uC w b N.ts):
 Calls prog 70 #[yA (sC a g b i N),dB f,tA c] w λe j=>MJ N (tA (cN N f c)) w e j:=by
 have l:=gB r;have n:=gB s;have d:=aJj (N:=N) (code:=f) (reply:=c);clear r s;generalize cN N f c=V at *;have E:=cK;obtain⟨v,rfl⟩|⟨v,⟨o|⟨o,p|⟨p,q|⟨q,x⟩⟩⟩,rfl⟩|⟨o,p,q,x,⟨t,rfl⟩|⟨t,rfl⟩⟩⟩:=d
 all_goals
  have A:=rF a g b i N 42;have y:=vE a g b i N;(try rw[t]at A y);have X:=gB ((rB.new w (sC a g b i N) 42).alloc (aB (sC eA 0 eA 0 yN) 42));have R:=rB.new (w.alloc (aB (sC a g b i N) 42)) (sC eA 0 eA 0 yN) 42;rw[jA.size_alloc]at R;replace R:=gB R;have B:=gB (xB (uF w (aB (sC a g b i N) 42)) (uF _ (aB (sC eA 0 eA 0 yN) 42)));go_enter func70,ntmps70;go_upto_region 1 with fail;generalize (w.alloc (aB (sC a g b i N) 42)).alloc (aB (sC eA 0 eA 0 yN) 42)=W at *;have F:=X.o;have G:=R.o.box rfl;have m:=gB (λj(h:zB W j)=>X.o.z h);have u:=gB (λj(h:zB W j)=>((eH j (w.1.size+1) (sC a g b i N)).blk (X.o.z h) (by omega):rB _ w.1.size _ _));go_wp2
 all_goals first
  |exact aU rfl rfl rfl rfl R.o (dG _ _ _ _ _) (by omega) B.o (l.o.z B.o) (n.o.z B.o)
  |skip
 all_goals
  go_region_held3 (λj=>rB j w.1.size (sC a g b i N) 42)
   (first|with_reducible exact m.o _ k|with_reducible exact m.o _ jD.drew|exact u.o _ k)
   (first|(go_at_call 64;refine oC (xG _ _ (by omega) (by omega)) ?_;intro C z;have k:zB W C:=(by with_reducible exact xB jD.drew z);have D:=(R.o.z k).box rfl))
  replace B:=gB (xB B.o k);go_wp2;exact aU rfl rfl rfl rfl (R.o.z k) (dG _ _ _ _ _) (by omega) B.o (l.o.z B.o) (n.o.z B.o)
end
def aDl{c:kC}{b a:Int}{d:List kB}(h:pC c b d=iA):xD c.w a (DE ⟨⟨#[]⟩,0,[],[]⟩ iA d)=xD c.w a d:=by
 rw[eU (t:=⟨⟨#[]⟩,0,[],[]⟩) (eh h)]
def aEx:VO ⟨⟨#[]⟩,0,[],[]⟩:=⟨Oa _,Oa _,λi h=>absurd h (by simp)⟩
def dX(c:kC)(h:Int)(a:nC)(l:Nat)(k:List kB)(i:Int)(w:jA)(C:uC w a k)(m:cB k+fC k<=1900000)(r:pC c h k=iA):
 Calls prog 13 #[oE c,yA #[dB h,uA a (cB k) l],dB i] w λe D=>iS (pZ c h k i) w e D:=by
 obtain⟨d,b,f,g⟩:=nO m;obtain⟨-,o,o,y,-⟩:=dH r;have F:=gB (λW(u:zB w W)=>rH c h a l k W (C.z u) b (by omega));have q:=gB (λW(u:zB w W)=>xS c h a l k W (C.z u) r m);have G:fB (∀W j,zB w W->0<=j->j<=1000000000000->Calls prog 46 #[oE c,yA #[dB h,uA a (cB k) l],dB j,yA #[tA ⟨#[]⟩,dB 0,uA eA 0 0,uA eA 0 0]] W λe D=>∃M t,e=zA (yA #[dB j,.slice M (cB (xD c.w j k)) t])/\cD D W.1.size M (xD c.w j k)/\zB W D):=λW j u o B=>by
  have:=CI c h j a l k ⟨⟨#[]⟩,0,[],[]⟩ eA eA 0 0 W (C.z u) (Ca rfl) (Ca rfl) (by omega) (λx B=>B.elim (λe=>e ▸ aEx) (LQ r m x)) o (by omega);rw[show(⟨⟨#[]⟩,0,[],[]⟩:kB).N.toList.isEmpty=iA from by kernel_rfl,aDl r]at this;exact this
 have I:(i<1\/¬i<1/\1000000000000-h<i)/\pZ c h k i=(h,k,gA)\/¬i<1/\¬1000000000000-h<i/\pZ c h k i=(h+i,xD c.w (h+i) k,iA):=by
  unfold pZ;rw[Ja (by rw[r];simp)];by_cases A:i<1<;>by_cases H:1000000000000-h<i<;>simp[A,H]
 rw[r]at F;clear C m d b f g r y;unfold iS;unfold oE at *;have P:=gB (AN.new (w:=w) (c:=c) (now:=h) (a:=a) (n:=cB k) (cap:=l));generalize pZ c h k i=V at *;obtain⟨A|⟨A,H⟩,E⟩|⟨A,H,E⟩:=I
 all_goals
  have E:=gB E;go_enter func13,ntmps13;go_wp2_with(first
   |(go_at_call 44;apply oC (F.o _ P.o.B);intro m o;replace P:=gB (P.o.z o);clear o F;obtain⟨O,Q,R,S,T,U,X,Y,-,-,-,-,N⟩:=P.o.cells)
   |(go_at_call 45;refine(q.o _ P.o.B).mono ?_;rintro e B ⟨K,L,rfl,z,o⟩;have s:=gB (P.o.z o);have p:=gB z;clear z o O Q R S T U X Y q;obtain⟨-,-,-,-,-,-,-,-,Z,m,I,W,J⟩:=s.o.cells)
   |(go_at_call 46;refine(G.o _ (h+i) P.o.B (by omega) (by omega)).mono ?_;rintro e B ⟨K,L,rfl,z,o⟩;have s:=gB (P.o.z o);have p:=gB z;clear z o O Q R S T U X Y q;obtain⟨-,-,-,-,-,-,-,-,Z,m,I,W,J⟩:=s.o.cells))
  refine bodyPost_ret (v:=?_) (by simp[results,results13,go_sem,Z,m];rfl) rfl ?_;rw[E.o];first
   |exact⟨K,⟨L,rfl⟩,s.o.done p.o N⟩
   |exact⟨K,L,rfl,s.o.done p.o N⟩
def aAz:(prog.info? 140).map (λi=>(i.zero,i.size,i.bytes))=fA (fA (yA #[dB 0,tA ⟨#[]⟩,tA ⟨#[]⟩,tA ⟨#[]⟩,dB 0]),5,64):=by kernel_rfl
def GB(w:jA)(B:Nat)(v:mA)(n:Nat)(l:List yK):Prop:=w.ownsRow B 140 5 v n (vN l)
def GB.z{w a:jA}{B n:Nat}{v:mA}{l:List yK}(h:GB w B v n l)(b:zB w a):GB a B v n l:=lC h b
def GB.new(w:jA):GB (w.alloc (aB #[] 140)) w.1.size (uA (cC w.1.size) 0 0) 0 []:=jA.ownsRow_made w #[] 0 (Ia _) (by simp[maxLen]) (by simp)
def kf(l:List yK)(o:yK):vN (l++[o])=vN l++[dB o.K,tA o.N,tA o.tq,tA o.data,dB o.size]:=by simp[vN]
def IQ{A:Array Oper}{c:List Oper}{o:Oper}{a:Act}{Q:Exit->Act->jA->Prop}{w:jA}(u:o.guard=eA)(s x:Operand)
(H:o.op=.call { callee:=.builtin .append,args:=#[s,x],argTypes:=#[194,194] })
(B n:Nat)(v:mA)(l:List yK)(k z:Int)(m p f:vB)(I:a.eval s=v)(y:fB (GB w B v n l))(J:a.eval x=uA (cC w.1.size) 1 1)(K:n<=2000000)(F:B<=w.1.size)
(h:∀g b r,fB (GB r B (uA (cC g) (n+1) b) (n+1) (l++[⟨k,m,p,f,z⟩]))->Below B w r->wpList prog A Q c (a.put o.dst (uA (cC g) (n+1) b)) r):
 wpList prog A Q (o::c) a (w.alloc (aB #[dB k,tA m,tA p,tA f,dB z] 140)):=by
 obtain⟨i,G,C,D,E⟩:=info_parts aAz;refine wpList_append_lies _ u s x _ H B 140 i _ 5 64 underlying194 G C D E rfl (by omega) v n (vN l) I (jA.ownsRow.alloc y.o _) (iB w.1.size 0) 1 1 [dB k,tA m,tA p,tA f,dB z] J rfl (by
  have:=jA.news_of_block (cs:=#[dB k,tA m,tA p,tA f,dB z]) (t:=140) (fr:=(0,0)) (heap_alloc_new w (aB #[dB k,tA m,tA p,tA f,dB z] 140));simpa using this) (by simp[mA.oneCell']) (by omega) (by simp[maxLen];omega) (by omega) (by simp;omega) (w.1.size+1) (by simp) ?_
 intro g b r j d _ _;refine h g b r ?_ ?_;show jA.ownsRow _ _ _ _ _ _ _;rw[kf];exact j;exact (aC.mono F).trans ((jB.grown d).below (by simp;omega) (λq L e=>by have:=(y.o.lt q e).1;omega))
def KW(r:fH)(g:nC)(d:Nat)(c:kC)(a:nC)(e:Nat)(b:nC)(f:Nat)(N:vC)(l:Nat):Array mA:=#[dB r.K,tA r.T,tA r.R,dB r.U,uA g (cB r.P) d,dB c.w,dB c.tl,dB c.ml,dB c.sh,dB c.ha,dB c.sg,uA a (cB N.d.fs) e,dB N.d.c,dB N.d.k,dB N.d.cr,dB N.d.fl,vA N.d.dn,dB N.l.first,dB N.l.last,dB N.l.size,dB N.now,uA b (cB N.ts) f,dB N.lsn,vA N.deg,vA N.up,.pointer (cC l)]
def aLf{r:fH}{g:nC}{d:Nat}{c:kC}{a:nC}{e:Nat}{b:nC}{f:Nat}{N:vC}{l:Nat}{T:oA}:∀W D,rB W D (KW r g d c a e b f N l) T->W.cell? (iB D 0)=fA (dB r.K)/\W.cell? (iB D 1)=fA (tA r.T)/\W.cell? (iB D 2)=fA (tA r.R)/\W.cell? (iB D 3)=fA (dB r.U)/\W.cell? (iB D 4)=fA (uA g (cB r.P) d)/\W.cell? (iB D 5)=fA (dB c.w)/\W.cell? (iB D 6)=fA (dB c.tl)/\W.cell? (iB D 7)=fA (dB c.ml)/\W.cell? (iB D 8)=fA (dB c.sh)/\W.cell? (iB D 9)=fA (dB c.ha)/\W.cell? (iB D 10)=fA (dB c.sg)/\W.cell? (iB D 11)=fA (uA a (cB N.d.fs) e)/\W.cell? (iB D 12)=fA (dB N.d.c)/\W.cell? (iB D 13)=fA (dB N.d.k)/\W.cell? (iB D 14)=fA (dB N.d.cr)/\W.cell? (iB D 15)=fA (dB N.d.fl)/\W.cell? (iB D 16)=fA (vA N.d.dn)/\W.cell? (iB D 17)=fA (dB N.l.first)/\W.cell? (iB D 18)=fA (dB N.l.last)/\W.cell? (iB D 19)=fA (dB N.l.size)/\W.cell? (iB D 20)=fA (dB N.now)/\W.cell? (iB D 21)=fA (uA b (cB N.ts) f)/\W.cell? (iB D 22)=fA (dB N.lsn)/\W.cell? (iB D 23)=fA (vA N.deg)/\W.cell? (iB D 24)=fA (vA N.up)/\W.cell? (iB D 25)=fA (.pointer (cC l)):=
 λ_ _ h=>⟨h.cell 0,h.cell 1,h.cell 2,h.cell 3,h.cell 4,h.cell 5,h.cell 6,h.cell 7,h.cell 8,h.cell 9,h.cell 10,h.cell 11,h.cell 12,h.cell 13,h.cell 14,h.cell 15,h.cell 16,h.cell 17,h.cell 18,h.cell 19,h.cell 20,h.cell 21,h.cell 22,h.cell 23,h.cell 24,h.cell 25⟩
def iI{W:jA}{D:Nat}{T:oA}{r:fH}{g:nC}{d:Nat}{c:kC}{a:nC}{e:Nat}{b:nC}{f:Nat}{N:vC}{l:Nat}(h:rB W D (KW r g d c a e b f N l) T):(W.cell? (iB D 0)=fA (dB r.K)/\W.cell? (iB D 1)=fA (tA r.T)/\W.cell? (iB D 2)=fA (tA r.R)/\W.cell? (iB D 3)=fA (dB r.U)/\W.cell? (iB D 4)=fA (uA g (cB r.P) d)/\W.cell? (iB D 5)=fA (dB c.w)/\W.cell? (iB D 6)=fA (dB c.tl)/\W.cell? (iB D 7)=fA (dB c.ml)/\W.cell? (iB D 8)=fA (dB c.sh)/\W.cell? (iB D 9)=fA (dB c.ha)/\W.cell? (iB D 10)=fA (dB c.sg)/\W.cell? (iB D 11)=fA (uA a (cB N.d.fs) e)/\W.cell? (iB D 12)=fA (dB N.d.c)/\W.cell? (iB D 13)=fA (dB N.d.k)/\W.cell? (iB D 14)=fA (dB N.d.cr)/\W.cell? (iB D 15)=fA (dB N.d.fl)/\W.cell? (iB D 16)=fA (vA N.d.dn)/\W.cell? (iB D 17)=fA (dB N.l.first)/\W.cell? (iB D 18)=fA (dB N.l.last)/\W.cell? (iB D 19)=fA (dB N.l.size)/\W.cell? (iB D 20)=fA (dB N.now)/\W.cell? (iB D 21)=fA (uA b (cB N.ts) f)/\W.cell? (iB D 22)=fA (dB N.lsn)/\W.cell? (iB D 23)=fA (vA N.deg)/\W.cell? (iB D 24)=fA (vA N.up)/\W.cell? (iB D 25)=fA (.pointer (cC l)))/\D<W.1.size/\¬D=W.1.size:=
 have:=eB h
 ⟨aLf _ _ h,this,by omega⟩
def aEk{C:jA->Prop}{w:jA}{D:Nat}{x y z A B E F G H I e J K L M N O P Q R S r s u v f g i j l m n T o q a b c d p:mA}{t:oA}(h:rB w D #[x,y,z,A,B,E,F,G,H,I,e,J,K,L,M,N,O,P,Q,R,S,r,s,u,v,p] t)(k:∀W,rB W D #[x,y,z,A,B,E,F,G,H,I,e,f,g,i,j,l,m,n,T,o,q,a,b,c,d,p] t->jB (·=D) w W->C W):C ((((((((((((((w.setCell (iB D 11) f).setCell (iB D 12) g).setCell (iB D 13) i).setCell (iB D 14) j).setCell (iB D 15) l).setCell (iB D 16) m).setCell (iB D 17) n).setCell (iB D 18) T).setCell (iB D 19) o).setCell (iB D 20) q).setCell (iB D 21) a).setCell (iB D 22) b).setCell (iB D 23) c).setCell (iB D 24) d):=
 k _ (by have:=((((((((((((((h.set 11 f).set 12 g).set 13 i).set 14 j).set 15 l).set 16 m).set 17 n).set 18 T).set 19 o).set 20 q).set 21 a).set 22 b).set 23 c).set 24 d);simpa using this) (((((((((((((((jB.refl (·=D) w).setCell (Ca rfl) 11 f).setCell (Ca rfl) 12 g).setCell (Ca rfl) 13 i).setCell (Ca rfl) 14 j).setCell (Ca rfl) 15 l).setCell (Ca rfl) 16 m).setCell (Ca rfl) 17 n).setCell (Ca rfl) 18 T).setCell (Ca rfl) 19 o).setCell (Ca rfl) 20 q).setCell (Ca rfl) 21 a).setCell (Ca rfl) 22 b).setCell (Ca rfl) 23 c).setCell (Ca rfl) 24 d)
def iT(M:vC)(x:Int):Int:=if x=0 then 0 else if x=22\/x=23\/x=21\/x=62 then 2 else if M.up=gA then 4 else 3
def aKg(M:vC)(x:Int):(x==0)=iA/\iT M x=0\/(x==0)=gA/\(((x==22)=iA\/(x==22)=gA/\((x==23)=iA\/(x==23)=gA/\((x==21)=iA\/(x==21)=gA/\(x==62)=iA)))/\iT M x=2\/(x==22)=gA/\(x==23)=gA/\(x==21)=gA/\(x==62)=gA/\(M.up=gA/\iT M x=4\/M.up=iA/\iT M x=3)):=by
 unfold iT;cases M.up<;>grind
section
open Go.Maps
def sj(l m:Nat)(a met:vB)(c:kC)(g:Int)(B:Nat->Prop)(k:List kB)(M:Nat)(w:jA)(h:jE w B l m c g k M)(W:a.size<=maxLen)(H:met.size<=maxLen)(G : -1<=(eC k a).L):
 gF 182 #[.pointer (cC l),tA a,tA met] w (.tuple #[dB (uE c (eC k a) met).1,dB (uE c (eC k a) met).2]):=by
 have f:fB (Calls prog 183 #[.pointer (cC l),tA a] w λe n=>VU c g k l m a w e n):=bp l m a c g B k M w h W;clear h;unfold VU at f;generalize eC k a=t at *;by_cases s:met.toList.isEmpty=iA
 .have o:fB (uE c t met=(((cB t.Z:Nat):Int),if t.L = -1 then c.tl else t.L)):=by
   show _=_;unfold uE;rw[Ma s];by_cases p:t.L = -1
   .rw[Ma p,Ma (by omega)]
   rw[Ja p,Ja (by omega)]
  go_enter func182,ntmps182;go_wp2_with fail;refine f.o.mono ?_;rintro e i ⟨x,b,S,A,rfl,d,r,q⟩;have v:fB (bM 241 #[.pointer (cC l),.pointer (cC x)] i (dB (if t.L = -1 then c.tl else t.L))):=JW l m x c g t S A i r d;obtain⟨P,C,j,N,Q,L,D,d⟩:=d;have c2:gD i x 2 (.map (fA C)):=d.blk.cell 2;have O:=d.Z.len underlying228 3;rw[pM]at O;have J:cB Q=cB t.Z:=by rw[<-d.q1,Xa]
  rw[J]at O;have u:=gB q;clear d r J q f;generalize (if t.L = -1 then c.tl else t.L)=X at *;generalize cB t.Z=h at *;go_wp2_with fail;apply dR v.o;go_wp2;go_ret2;exact⟨tK (by rw[o.o]) (by rw[o.o]),u.o⟩
 .have V:met.toList.isEmpty=gA:=by simpa using s
  have o:fB (uE c t met=(((sI cE t.Z met:Nat):Int),zG t.M met c.ml)):=by show _=_;unfold uE;rw[Ja s]
  go_enter func182,ntmps182;clear s;go_wp2_with fail;refine f.o.mono ?_;rintro e i ⟨x,b,S,A,rfl,d,r,q⟩;have z:fB (∀y:mC i,bM 242 #[.pointer (cC l),.pointer (cC x),tA met] y.w' (dB (zG t.M met c.ml))):=λy=>vT l m x c g t S A met y.w' (r.z y.h) (d.z y.h) H;have E:fB (∀y:mC i,∃j,y.w'.cell? (iB x 3)=fA (.map (fA j))/\(Instr.lookup 227 (.map (fA j)) (tA met) gA).run prog y.w'=.ok (dB (sI cE t.Z met)) y.w'):=λy=>by
   obtain⟨P,C,j,N,Q,L,D,d⟩:=d.z y.h;exact⟨j,d.blk.cell 3,OW d.cnts (d.cnt met) H⟩
  obtain⟨P,C,j,N,Q,L,D,d⟩:=d;have F:gD i x 3 (.map (fA j)):=d.blk.cell 3;have T:=mC.cells F;have K:∀y:mC i,(Instr.lookup 227 (.map (fA j)) (tA met) gA).run prog y.w'=.ok (dB (sI cE t.Z met)) y.w':=λy=>by
   obtain⟨R,p,U⟩:=E.o y;rw[T y]at p;cases p
   exact U
  have u:=gB q;have I:=mC.there i;clear d r q f E F;generalize sI cE t.Z met=Y at *;generalize zG t.M met c.ml=Z at *;go_wp2_with fail;refine bC (by kernel_rfl) (by kernel_rfl) ?_;repeat (go_big_quiet_step (first|(go_at_call 242;exact dD (z.o _))|fail))
  refine wpQuiet_nil ?_;rintro _ ⟨y,rfl⟩;go_wp2;go_ret2;exact⟨tK (by rw[o.o]) (by rw[o.o]),xB u.o y.h⟩
end
section
open Go.Maps
attribute [local go_sem] lG jH rB.drewI
def PO{D l:Nat}{r:fH}{n a b a' b':nC}{m v y ca' cb':Nat}{c:kC}{N M:vC}{x:Int}{w:jA}(h:rB w D (KW r n m c a v b y N l) 93):
 Calls prog 180 #[.pointer (cC D),yA (sC a' ca' b' cb' M),dB x] w λe o=>e=zA (dB (iT M x))/\rB o D (KW r n m c a' ca' b' cb' M l) 93/\jB (·=D) w o:=by
 have q:=gB (aKg M x);have A:=rF a' ca' b' cb' M 42;have B:=gB (jB.of (S:=(·=D)) (uF w (aB (sC a' ca' b' cb' M) 42)));have H:=gB (h.alloc (aB (sC a' ca' b' cb' M) 42));have X:=gB (rB.new w (sC a' ca' b' cb' M) 42);have G:=eB h;generalize iT M x=V at *;clear h;go_enter func180,ntmps180;go_upto_region 1 with fail;generalize w.alloc (aB (sC a' ca' b' cb' M) 42)=W at *;have F:=iI H.o;have E:=λj=>H.o.free j;have p:=X.o;go_upto_region 2 with fail;refine aEk (C:=λW=>Code.wp prog _ _ _ W) H.o ?_;intro s k d;have I:rB s w.1.size (sC a' ca' b' cb' M) 42:=d.blk p (by omega);have z:=gB (Vc k (B.o.trans' d));clear F E p k d H X B;obtain⟨t,rfl⟩|⟨t,⟨f|⟨f,g|⟨g,i|⟨i,u⟩⟩⟩,rfl⟩|⟨f,g,i,u,⟨m,rfl⟩|⟨m,rfl⟩⟩⟩:=q.o
 all_goals
  (try rw[m]at A);go_wp2;go_ret;exact⟨rfl,z.o⟩
end
theorem mW:∀(a:List hC)(i:Nat),lD a i=eA ↔ ∀l∈a,pQ l=0
 |[],i=>by simp[lD]
 |l::r,i=>by
  rw[lD];by_cases h:pQ l=0
  .rw[Ma h,mW r (i+1)];simp[h]
  rw[Ja h];simp[h]
theorem AU:∀(b:List hC)(i c k:Nat),lD b i=fA (c,k)->c≠0
 |[],i,c,k,h=>by simp[lD]at h
 |l::r,i,c,k,h=>by
  rw[lD]at h;by_cases a:pQ l=0
  .rw[Ma a]at h;exact AU r _ c k h
  rw[Ja a]at h;simp only[Qa,Dc]at h;omega
theorem NZ:∀(r a:List hC)(i:Nat),gU (a++r)->qF a r i=eA
 |[],_,_,_=>by simp[qF]
 |l::r,a,i,h=>by
  rw[qF];have c:¬a.any (λx=>iR x l)=iA:=by
   intro b;rw[Zd]at b;obtain⟨x,d,e⟩:=b;unfold gU at h;rw[Ae]at h;exact h.2.2 x d l (by simp) ((UZ _ _).1 e)
  rw[Ja c];exact NZ r _ _ (by simpa using h)
def MR{a:List hC}(b:cB a<=16)(c:∀l∈a,pQ l=0)(d:gU a)(e:rR a=iA):yB a=(kG [] a,0,0):=by grind [MT,mW,NZ]
def ru{a:List hC}(h:(yB a).2.1=0):cB a<=16/\(∀l∈a,pQ l=0)/\gU a/\rR a=iA:=by grind [yB,pQ,gU,rR,lD,qF,BQ,vZ,AU,iY,GK,mW,pu]
def vu{b a:List hC}(c:a.Perm b)(h:gU b):gU a:=by
 unfold gU at *;exact(c.pairwise_iff (fun{x y} e=>Ne.symm e)).2 h
def jf{a:List hC}(h:(yB a).2.1=0):yB (yB a).1=((yB a).1,0,0):=by
 obtain⟨m,g,i,j⟩:=ru h;rw[MR m g i j];simp only;have d:(kG [] a).Perm (oL a):=(nL a []).trans (by rw[Mb]);have k:∀l∈kG [] a,l∈a/\vS l=gA:=λl c=>by
  have:=De.1 (d.mem_iff.1 c);exact⟨this.1,by simpa using this.2⟩
 have b:gU (kG [] a):=vu d (i.sublist Pf);have n:oL (kG [] a)=kG [] a:=by
  unfold oL;rw[Jc];intro l c;rw[(k l c).2];rfl
 have f:rR (kG [] a)=iA:=by
  unfold rR at *;rw[Zd]at *;obtain⟨x,o,e⟩:=j;refine⟨x,d.mem_iff.2 (De.2 ⟨o,?_⟩),e⟩;simp only[Sa]at e;exact e.1
 rw[MR (by rw[d.length_eq];have:=AE a;omega) (λl c=>g l (k l c).1) b f];congr 1;exact(VD b (by rw[n]) (mU a [] Gd)).symm
def bt{a:List hC}(h:(yB a).2.1=0):dO (yB a).1=iA:=by
 unfold dO;rw[jf h];simp[cX]
def bu{a:List hC}(h:(yB a).2.1=0):wI (yB a).1=bI (yB a).1/\sG (bI (yB a).1)=((yB a).1,iA):=⟨by unfold wI;rw[Ma (bt h)],ba (bt h)⟩
def XU{w:jA}{g f h i j k:Nat}{l m n o p:mA}:w.cell? (iB g f)=fA l/\w.cell? (iB g h)=fA m/\w.cell? (iB g i)=fA n/\w.cell? (iB g j)=fA o/\w.cell? (iB g k)=fA p->(∀x:mC w,x.w'.cell? (iB g f)=fA l)/\(∀x:mC w,x.w'.cell? (iB g h)=fA m)/\(∀x:mC w,x.w'.cell? (iB g i)=fA n)/\(∀x:mC w,x.w'.cell? (iB g j)=fA o)/\∀x:mC w,x.w'.cell? (iB g k)=fA p:=
 fun⟨a,b,c,d,e⟩=>⟨mC.cells a,mC.cells b,mC.cells c,mC.cells d,mC.cells e⟩
def kr(r:fH)(a:nC)(k:Nat)(w:jA)(o:gJ w a r.P)(h:VR r)(C:eR w):
 gF 95 #[yA #[dB r.K,tA r.T,tA r.R,dB r.U,uA a (cB r.P) k]] w (tA (oK r)):=by
 obtain⟨s,Q⟩:=h.bulk;have P:=h.sz;have D:=h.ok.1;obtain⟨i,N⟩:∃i:Nat,r.K=(i:Int):=⟨r.K.toNat,by omega⟩
 have q:=gB (rB.new w #[dB r.K,tA r.T,tA r.R,dB r.U,uA a (cB r.P) k] 47);have m:=gB (uF w (aB #[dB r.K,tA r.T,tA r.R,dB r.U,uA a (cB r.P) k] 47));have z:=gB (λW=>TQ D W);have v:=gB (λW=>aEy a k W h.ok);have u:=gB (λW(l:zB w W)=>WM r a k W (o.z l) h.ok);have B:=gB (λW(l:zB w W)=>ZN r a k W (o.z l) (by omega));have J:=gB (λW(l:zB w W)=>jv r a k W (o.z l) (by omega) h.ok);have A:fB (∀W,zB w W->gD W 0 (i*5) (vA (wU i))/\gD W 0 (i*5+1) (vA ((i:Int)==1))/\gD W 0 (i*5+2) (vA (vU i))/\gD W 0 (i*5+3) (vA (iV i))/\gD W 0 (i*5+4) (vA ((i:Int)==1||(i:Int)==2||(i:Int)==3||(i:Int)==4))):=λW l=>have t:=λj O=>(C.z l).2 i j (by omega) O;⟨t 0 (by omega),t 1 (by omega),t 2 (by omega),t 3 (by omega),t 4 (by omega)⟩;clear o C h s;unfold shV at *;generalize oK r=S at *;generalize r.T.size+r.R.size+wP r.P=T at *;have U:(i:Int)<7:=by omega
 clear D;rw[N]at *;go_enter func95,ntmps95;go_upto_region 1 with fail;generalize w.alloc (aB #[dB i,tA r.T,tA r.R,dB r.U,uA a (cB r.P) k] 47)=K at *;have n:=mC.there K;obtain⟨E,F,G,H,I⟩:=XU q.o.c5;obtain⟨b,c,d,f,g⟩:=XU (A.o _ m.o);go_wp2_with fail;refine bC (by kernel_rfl) (by kernel_rfl) ?_;repeat (go_big_quiet_step (first|exact rC (z.o _)|exact rC (v.o _)|exact rC (u.o _ (xB m.o (mC.h _)))|exact rC (B.o _ (xB m.o (mC.h _)))))
 refine wpQuiet_nil ?_;rintro _ ⟨x,rfl⟩;have p:=gB (xB m.o x.h);have M:=gB (q.o.z x.h);clear z v u B E F G H I b c d f g n q m;generalize x.w'=L at *;have n:=mC.there L;obtain⟨E,F,G,H,I⟩:=XU M.o.c5;obtain⟨b,c,d,f,g⟩:=XU (A.o _ p.o);go_wp2_with fail;refine bC (by kernel_rfl) (by kernel_rfl) ?_;repeat (go_big_quiet_step (exact rC (J.o _ (xB p.o (mC.h _)))))
 refine wpQuiet_nil ?_;rintro _ ⟨y,rfl⟩;go_wp2;go_ret;exact⟨rfl,xB p.o y.h⟩
def am(p q:mA)(w:jA):
 CallsD prog 92 #[p,q] .returning w λe c d=>e=zA (.tuple #[])/\c=.returning/\d=w:=by
 refine callsD_of_wpS func92 rfl λa cs b=>?_;apply wpS_seq;apply wpS_region;simp[wpOpsS,go_sem,recoverD,b,ntmps92,Exit.thenS];refine wpS_cond (t:=gA) (by simp[Act.eval,Array.replicate]) ?_;simp only[Bd,Cf];refine wpS_of_wp (wp_skip ?_);cases a
 simp_all[bodyPostS,results,results92]
structure DB(w W:World)(cs:Array Value)(av:nC)(xs:List wF):Prop where
 R:rB W w.1.size cs 47
 K:rB W (w.1.size+1) #[vA gA] 4
 O:vG W (w.1.size+1+1) av xs
 N:zB w W
section
variable {w W W':jA} {cs:Array mA} {av:nC} {xs:List wF}
theorem DB.z(h:DB w W cs av xs)(a:zB W W'):DB w W' cs av xs:=⟨h.R.z a,h.K.z a,h.O.z a,xB h.N a⟩
theorem DB.set(h:DB w W cs av xs)(i:Nat)(v:mA):DB w (W.setCell (iB w.1.size i) v) (cs.setIfInBounds i v) av xs:=
 have a:uD w.1.size W (W.setCell (iB w.1.size i) v):=(uD.refl _ _).setCell i v
 ⟨h.R.set i v,h.K.but a (by omega),h.O.but a (by omega),h.N.setCell (by simp) _⟩
end
def ci(r:fH)(w:jA)(h:VR r)(x:eR w):Calls prog 29 #[tA (oK r)] w λe L=>ZY r w e L:=by
 obtain⟨g,d⟩:∃g,((w.alloc (aB #[dB 0,tA pA,tA pA,dB 0,uA eA 0 0] 47)).alloc (aB #[vA gA] 4))=g:=⟨_,rfl⟩
 have j:g.1.size=w.1.size+1+1:=by rw[<-d];simp
 have y:zB w g:=d ▸ xB aC aC;have B:DB w g #[dB 0,tA pA,tA pA,dB 0,uA eA 0 0] eA []:=⟨d ▸ (rB.new _ _ _).alloc _,by have:=rB.new (w.alloc (aB #[dB 0,tA pA,tA pA,dB 0,uA eA 0 0] 47)) #[vA gA] 4;rw[<-d];simpa using this,Ca rfl,y⟩
 have c:=uF g (aB #[tA (oK r),vA gA] 181);have X:=rB.new g #[tA (oK r),vA gA] 181;rw[j]at X;have l:=gB (aCr h X (x.z (xB y c)) (by have:=x.1;omega));have C:fB (∀k av,uD (w.1.size+1+1) (g.alloc (aB #[tA (oK r),vA gA] 181)) k->vG k (g.alloc (aB #[tA (oK r),vA gA] 181)).1.size av r.P->DB w k #[dB 0,tA pA,tA pA,dB 0,uA eA 0 0] av r.P):=λk av A J=>
  have z:=B.z c
  ⟨z.R.but A (by omega),z.K.but A (by omega),J.mono (by simp[j]),z.N.trans (A.below (by omega) (by simp[j];omega))⟩
 have m:=gB (λW av i(H:gJ W av r.P)(I:zB w W)=>kr r av i W H h (x.z I));unfold ZY;clear h x X c B y;generalize oK r=s at *;subst d;generalize r.P=xs at *;generalize r.K=K at *;generalize r.T=G at *;generalize r.R=E at *;generalize r.U=F at *;clear j;go_enter_defers func29,ntmps29;go_wp2_with fail;refine l.o.mono ?_;rintro e k ⟨av,i,rfl,o,c⟩;have D:=gB (C.o k av c o);clear o c l C;obtain⟨p,q,t,u,v⟩:=D.o.R.c5;have a:=D.o.R.free;go_wp2_with fail;replace D:=gB (((((D.o.set 0 (dB K)).set 1 (tA G)).set 2 (tA E)).set 3 (dB F)).set 4 (uA av (cB xs) i));clear p q t u v a;generalize (((((k.setCell (iB w.1.size 0) (dB K)).setCell (iB w.1.size 1) (tA G)).setCell (iB w.1.size 2) (tA E)).setCell (iB w.1.size 3) (dB F)).setCell (iB w.1.size 4) (uA av (cB xs) i))=Q at *;obtain⟨p,q,t,u,v⟩:=D.o.R.c5;try go_wp2_with fail
 apply oC (m.o _ _ _ D.o.O.P D.o.N);intro T n;replace D:=gB (D.o.z n);clear n m p q t u v;obtain⟨p,q,t,u,v⟩:=D.o.R.c5;have a:=D.o.R.free;have P:=D.o.K.cell 0;have b:=D.o.K.free 0;go_wp2_with fail;refine tD (ET _ _) ?_;go_wp2;refine leaves_cons (f:=92) (args:=#[.pointer (cC w.1.size),.pointer (cC (w.1.size+1))]) (by simp) (by simp[go_sem]) ?_;refine(am _ _ _).mono ?_;rintro e S M ⟨rfl,rfl,rfl⟩;simp[Leaves,settle,results,results29,go_sem,p,q,t,u,v,P];exact⟨((((((D.o.O.but ((uD.refl w.1.size _).setCell 0 _) (by omega)).but ((uD.refl w.1.size _).setCell 1 _) (by omega)).but ((uD.refl w.1.size _).setCell 2 _) (by omega)).but ((uD.refl w.1.size _).setCell 3 _) (by omega)).but ((uD.refl w.1.size _).setCell 4 _) (by omega)).but ((uD.refl (w.1.size+1) _).setCell 0 _) (by omega)).mono (by omega),((((((D.o.N.setCell (by simp) _).setCell (by simp) _).setCell (by simp) _).setCell (by simp) _).setCell (by simp) _).setCell (by simp) _)⟩
