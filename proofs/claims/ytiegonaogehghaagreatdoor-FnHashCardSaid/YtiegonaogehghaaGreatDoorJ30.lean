import Derived.Test.YtiegonaogehghaaGreatDoorJ28
import Derived.Test.YtiegonaogehghaaGreatDoorJ27
import Derived.Test.YtiegonaogehghaaGreatDoorJ25
set_option maxRecDepth 100000
set_option maxHeartbeats 8000000
set_option linter.defProp false
open Option renaming some->bA,none->aA
open ByteArray renaming empty->kA
open Bool renaming true->dA,false->cA
open List renaming length->yA
namespace Go.Proofs.YtiegonaogehghaaGreatDoor
open Go renaming World->eA,Value->iA,TypeId->jA
open Value renaming string->oA,agg->tA,slice->pA,bool->qA
open Obj renaming cells->vA
open Ending renaming returned->uA
open Go.RowKit Tryz
def aJy(a:List qE):Prop:=∀i(h:i<yA a),a[i].T.size<=1000000000/\a[i].X.size<=1000000000
def el(v:Int)(w:eA):vE 24 #[zA v] w (oA (qB 1 v)):=by
 have c:=cB (fH 1 v w (by omega));generalize qB 1 v=N at *;go_enter func24,ntmps24;go_wp2_with fail;apply hC c.o;intro f a;have b:=cB a;clear a;go_wp2;go_ret;exact⟨rfl,b.o⟩
def ej(v:Int)(w:eA):vE 155 #[zA v] w (oA (qB 2 v)):=by
 have c:=cB (fH 2 v w (by omega));generalize qB 2 v=N at *;go_enter func155,ntmps155;go_wp2_with fail;apply hC c.o;intro f a;have b:=cB a;clear a;go_wp2;go_ret;exact⟨rfl,b.o⟩
def JZ(v:Int)(w:eA):vE 164 #[zA v] w (oA (qB 8 v)):=by
 have c:=cB (fH 8 v w (by omega));generalize qB 8 v=N at *;go_enter func164,ntmps164;go_wp2_with fail;apply hC c.o;intro f a;have b:=cB a;clear a;go_wp2;go_ret;exact⟨rfl,b.o⟩
def xn:(prog.info? 9).map (λi=>(i.zero,i.size,i.bytes))=bA (bA (oA kA),1,16):=by kernel_rfl
def eZ(a:List qE):List nB:=a.flatMap λr=>[qB 1 r.K,xM r.T,vF r.X,qB 8 r.U]
def ik(a:List qE)(k:Nat)(h:k<yA a):eZ (a.take (k+1))=eZ (a.take k)++[qB 1 a[k].K,xM a[k].T,vF a[k].X,qB 8 a[k].U]:=by
 unfold eZ;rw[Pa h,He];rfl
def MZ:∀(a:List qE),qF (eZ a)=sM a
 |[]=>rfl
 |r::q=>by
  have e:eZ (r::q)=[qB 1 r.K,xM r.T,vF r.X,qB 8 r.U]++eZ q:=rfl;rw[e,eG,MZ q,sM];simp[qF,XX,Wa]
theorem eb(d:Int)(a:Option Addr)(t:Nat)(c:List qE)(w:World)(hf:pI w a c)(hB:aJy c)(hlen:c.length<=2000000):
 Calls prog 202 #[.agg #[.int .i64 d,.slice a c.length t]] w λe f=>e=.returned (.string (cR d c))/\Below w.1.size w f:=by
 have z:(d<1\/¬d<1/\d > 1000000000000000\/(¬d<1/\¬d > 1000000000000000)/\(c.length:Int)<1\/(¬d<1/\¬d > 1000000000000000)/\¬(c.length:Int)<1/\(c.length:Int) > 500)\/(¬d<1/\¬d > 1000000000000000)/\¬(c.length:Int)<1/\¬(c.length:Int) > 500:=by omega
 obtain z|⟨⟨Z,c2⟩,c3,c4⟩:=z
 .have E:=cB (LQ (lsn:=d) (rs:=c) λh=>by obtain⟨h1,h2,h3,h4,-⟩:=h;omega);rw[E.o];clear hf hB;obtain Z|⟨Z,c2⟩|⟨⟨Z,c2⟩,c3⟩|⟨⟨Z,c2⟩,c3,c4⟩:=z
  all_goals
   go_enter func202,ntmps202;go_wp2;go_ret;exact⟨rfl,yB⟩
 have HF:bB (pI w a c):=hf;have HB:bB (aJy c):=hB;have O:bB _:=λW=>JZ d W;have N:bB _:=λW=>ej (c.length:Nat) W;have hz8:=kB 8 d;have hz2:=kB 2 (c.length:Nat);have HKB:bB (AP d c->cR d c=qB 8 d++qB 2 (c.length:Nat)++sM c):=λh=>XD h;have HOK:bB (ur c->AP d c):=λh=>⟨by omega,by omega,by omega,by omega,h⟩
 generalize qB 8 d=N8 at *;generalize qB 2 (c.length:Nat)=N2 at *;clear hf hB;go_enter func202,ntmps202;go_upto_region 3 with fail;have X6:bB (gB (w.alloc (.cells #[.int .i64 d,.slice a c.length t] 123)) w.1.size #[.int .i64 d,.slice a c.length t] 123):=gB.new _ _ _;have B0:bB (Below w.1.size w (w.alloc (.cells #[.int .i64 d,.slice a c.length t] 123))):=yB;generalize w.alloc (.cells #[.int .i64 d,.slice a c.length t] 123)=J at *;have D:bB (∀f,Below J.1.size J f->f.cell? ⟨w.1.size,0,none⟩=some (.int .i64 d)/\f.cell? ⟨w.1.size,1,none⟩=some (.slice a c.length t)):=λf h=>by
  have q:=X6.o.z h;exact⟨q.cell 0,q.cell 1⟩
 obtain⟨x0,x1⟩:=D.o J bD;go_cut [3] (λs wx=>∃g,s=.slice (some ⟨g,0,none⟩) 2 2/\J.1.size<=g/\wx.heap[g]?=some (.cells #[.string N8,.string N2] 9 (0,0))/\Below J.1.size J wx)
 case first=>
  go_region_held3 (λf=>f.cell? ⟨w.1.size,0,none⟩=some (.int .i64 d)/\f.cell? ⟨w.1.size,1,none⟩=some (.slice a c.length t))
   (first|go_keep|exact D.o _ k4|exact D.o _ k3)
   (first
    |(go_at_call 164;refine(O.o _).mono ?_;rintro e w3 ⟨rfl,U⟩;have k3:Below J.1.size J w3:=(by exact vB bD.drew U))
    |(go_at_call 155;refine(N.o _).mono ?_;rintro e w4 ⟨rfl,V⟩;have k4:Below J.1.size J w4:=(by exact vB k3 V)))
  all_goals(go_wp2_with fail;go_meet)
  all_goals exact⟨_,rfl,k4.size,heap_alloc_new _ _,vB k4 yB⟩
 obtain⟨g0,rfl,hg0,C,Y⟩:=hcut;rename World=>w5;have B5:bB _:=vB B0.o Y;have HBL:bB (w5.heap[g0]?=some (.cells #[.string N8,.string N2] 9 (0,0))/\w.1.size<=g0):=⟨C,Ua B0.o.size hg0⟩
 have HK5:bB _:=λf h=>D.o f (vB Y h);obtain⟨y0,y1⟩:=HK5.o w5 bD;clear x0 x1 D X6 C hg0 Y B0 O N HK5;go_wp2;go_loopw [3,5,37] (λout _ i wr=>∃(k:Nat)(l:List ByteArray)(g cv:Nat),k<=c.length/\i=.int .i64 k/\out=.slice (some ⟨g,0,none⟩) l.length cv/\l.length<=2+4*k/\yF l<=10+k*3000000000/\bB (l=N8::N2::eZ (c.take k))/\bB (∀j(h:j<c.length),j<k->uO c[j])/\bB (wr.ownsRow w.1.size 9 1 (.slice (some ⟨g,0,none⟩) l.length cv) l.length (l.map Value.string))/\Below w.1.size w wr) (λ_ _ i _=>c.length-(intOf i).toNat)
 case atStart=>
  exact⟨0,[N8,N2],_,_,Oa _,rfl,rfl,by simp,by simp[yF];omega,rfl,λj _ h=>absurd h (by omega),⟨rfl,La ⟨g0,2,_,rfl,HBL.o.2,HBL.o.1,Ia _,by simp[maxLen],rfl,rfl⟩⟩,B5.o⟩
 case round=>
  obtain⟨k,l,g,cv,hk,rfl,rfl,hpl,hps,HPS,x,n,p⟩:=hrel;by_cases M:k<c.length
  .obtain ⟨b,o,rfl,hb,c0,Z,c2,c3⟩:=(HF.o.z p).at M;obtain⟨hn1,hn2⟩:=HB.o k M;have y:bB (∀W,Calls prog 245 #[.agg #[.int .i64 c[k].K,.string c[k].T,.string c[k].X,.int .i64 c[k].U]] W λe f=>e=.returned (.bool (bg c[k]))/\Below W.1.size W f):=λW=>xv c[k] W hn1 hn2;by_cases A:uO c[k]
   .rw[VP A]at y;have HK1:bB (∀W,Calls prog 24 #[.int .i64 c[k].K] W λe f=>e=.returned (.string (qB 1 c[k].K))/\Below W.1.size W f):=λW=>el _ W;have HS8:bB _:=λW=>mS c[k].T W hn1;have HS16:bB _:=λW=>mL c[k].X W hn2;have HN8:bB (∀W,Calls prog 164 #[.int .i64 c[k].U] W λe f=>e=.returned (.string (qB 8 c[k].U))/\Below W.1.size W f):=λW=>JZ _ W;have hq1:=kB 1 c[k].K;have hq2:=lF c[k].T;have hq3:=bF c[k].X;have hq4:=kB 8 c[k].U;have HA2:bB (∀j(h:j<c.length),j<k+1->uO c[j]):=λj h hj=>by
     rcases Gc j k with h1|h1
     .exact x.o j h h1
     .obtain rfl:j=k:=by omega
      exact A
    have HT:=ik c k M;have E2:bB (l++[qB 1 c[k].K,xM c[k].T,vF c[k].X,qB 8 c[k].U]=N8::N2::eZ (c.take (k+1))):=by show _=_;rw[HT,HPS.o];rfl
    clear HT A x;generalize qB 1 c[k].K=F at *;generalize xM c[k].T=G at *;generalize vF c[k].X=H at *;generalize qB 8 c[k].U=I at *;generalize c[k].K=ki at *;generalize c[k].T=te at *;generalize c[k].X=tx at *;generalize c[k].U=nu at *;have S:=cB (gB.new wr #[.int .i64 ki,.string te,.string tx,.int .i64 nu] 132);have hgB:=(xG n.o).2.1;have HBW:=cB (pF wr (.cells #[.int .i64 ki,.string te,.string tx,.int .i64 nu] 132));go_wp2_with fail;refine(y.o _).mono ?_;rintro e W ⟨rfl,u⟩;have D:=cB (λf(h:Below W.1.size W f)=>(S.o.z u).z h);have X:=vB HBW.o u;have T:=cB (show W.ownsRow w.1.size 9 1 (.slice (some ⟨g,0,none⟩) l.length cv) l.length (l.map Value.string)/\Below w.1.size w W from⟨eC n.o X,vB p X⟩);have hBX:=aB (S.o.z u);have hww:=T.o.2.size;clear n S hb c0 Z c2 c3 p u y X HBW;go_wp2_with fail;generalize wr.1.size=K at *;clear wr;have r:bB (∀f,Below W.1.size W f->f.cell? ⟨K,0,none⟩=some (.int .i64 ki)/\f.cell? ⟨K,1,none⟩=some (.string te)/\f.cell? ⟨K,2,none⟩=some (.string tx)/\f.cell? ⟨K,3,none⟩=some (.int .i64 nu)):=λf h=>⟨(D.o f h).cell 0,(D.o f h).cell 1,(D.o f h).cell 2,(D.o f h).cell 3⟩
    obtain⟨x0,x1,x2,x3⟩:=r.o W bD;go_region_held3 (λf=>f.cell? ⟨K,0,none⟩=some (.int .i64 ki)/\f.cell? ⟨K,1,none⟩=some (.string te)/\f.cell? ⟨K,2,none⟩=some (.string tx)/\f.cell? ⟨K,3,none⟩=some (.int .i64 nu))
     (first|go_keep|exact R|exact r.o _ (m.alloc m.size _)|exact r.o _ m|exact r.o _ hc3|exact r.o _ hc2|exact r.o _ hc1)
     ((first
       |(go_at_call 24;refine(HK1.o _).mono ?_;rintro e w1 ⟨rfl,hb1⟩;have hc1:Below W.1.size W w1:=(Below.refl _ W).drew.trans hb1)
       |(go_at_call 218;refine(HS8.o _).mono ?_;rintro e w2 ⟨rfl,L⟩;have hc2:=vB hc1 L)
       |(go_at_call 166;refine(HS16.o _).mono ?_;rintro e w3 ⟨rfl,U⟩;have hc3:=vB hc2 U)
       |(go_at_call 164;refine(HN8.o _).mono ?_;rintro e w4 ⟨rfl,V⟩;have m:=vB hc3 V)
       |(refine aS (by rfl) _ _ (by rfl) underlying30 xn rfl (by omega) (by omega) (B:=w.1.size) (by rfl) (by exact eC (eC T.o.1 m) yB) [.string F,.string G,.string H,.string I] (by rfl) rfl (by exact La ⟨_,rfl,World.news_of_block (cs:=#[.string F,.string G,.string H,.string I]) (heap_alloc_new _ _)⟩) (by simp[Value.oneCell']) (by omega) (by have:=m.size;simp;omega) ?_;intro g5 P w5 v hB5 hk5 _;have R:=(TN (hk5 K (by have:=m.size;simp;omega) (by omega)) (r.o _ (m.alloc m.size (.cells #[.string F,.string G,.string H,.string I] 9)))))))
    have hle:(l++[F,G,H,I]).length=l.length+4:=by simp
    have hsm:yF (l++[F,G,H,I])=yF l+(F.size+(G.size+(H.size+I.size))):=by rw[oH];simp[yF]
    rw[<-hle]at v |-
    have HO5:=cB (show w5.ownsRow w.1.size 9 1 (.slice (some ⟨g5,0,none⟩) (l++[F,G,H,I]).length P) (l++[F,G,H,I]).length ((l++[F,G,H,I]).map Value.string)/\Below w.1.size w w5 from⟨by rw[Ld];exact v,((vB T.o.2 m).alloc (Ua hww m.size) _).trans hB5⟩);clear v hB5 hk5 R;generalize l++[F,G,H,I]=ps5 at *;go_wp2;exact⟨⟨k+1,ps5,g5,P,by omega,by go_num,rfl,by omega,by omega,E2.o,HA2.o,HO5.o.1,HO5.o.2⟩,by simp[intOf];omega⟩
   .have E:bB _:=qz M A d;rw[BB A]at y;generalize c[k].K=ki at *;generalize c[k].T=te at *;generalize c[k].X=tx at *;generalize c[k].U=nu at *;clear A x n;go_wp2_with fail;refine(y.o _).mono ?_;rintro e W ⟨rfl,u⟩;have BW:bB _:=vB (vB p yB) u;clear u y;go_wp2;go_ret;exact⟨by rw[E.o];rfl,BW.o⟩
  .have Q:ur c:=λj h=>x.o j h (by omega);have E2:bB (qF l=cR d c):=by
    show _=_;rw[HPS.o,Ra (by omega),qF,qF,MZ,HKB.o (HOK.o Q),Wa]
   obtain⟨hcv,hg,z⟩:=xG n.o;have HJ:bB (Calls prog 159 #[.slice (some ⟨g,0,none⟩) l.length cv] wr λe f=>e=.returned (.string (qF l))/\Below wr.1.size wr f):=iI g l.length cv l wr rfl z hg hcv (by omega) (by omega);rw[E2.o]at HJ;clear n z Q;go_wp2_with fail;refine HJ.o.mono ?_;rintro e w2 ⟨rfl,L⟩;have B2:bB _:=vB p L;clear L;go_wp2;go_ret;exact⟨rfl,B2.o⟩
def lq{x b a:Int}(h:zB x b a=dA):b<=x/\x<=a:=by simpa[zB]using h
structure NP(w W:World)(c:gC)(cs:Array Value):Prop where
 C:gB W w.1.size #[zA c.w,zA c.tl,zA c.ml,zA c.sh,zA c.ha,zA c.sg] 24
 N:gB W (w.1.size+1) cs 42
 R:gB W (w.1.size+1+1) (dC aA 0 aA 0 xK) 42
 B:tB w W
section
variable {w W W':eA} {c:gC} {cs cs':Array iA}
theorem NP.new:NP w (((w.alloc (vA #[zA c.w,zA c.tl,zA c.ml,zA c.sh,zA c.ha,zA c.sg] 24)).alloc (vA cs 42)).alloc (vA (dC aA 0 aA 0 xK) 42)) c cs:=
 ⟨((gB.new _ _ _).alloc _).alloc _,by have:=(gB.new (w.alloc (vA #[zA c.w,zA c.tl,zA c.ml,zA c.sh,zA c.ha,zA c.sg] 24)) cs 42).alloc (vA (dC aA 0 aA 0 xK) 42);simpa using this,
   by have:=gB.new ((w.alloc (vA #[zA c.w,zA c.tl,zA c.ml,zA c.sh,zA c.ha,zA c.sg] 24)).alloc (vA cs 42)) (dC aA 0 aA 0 xK) 42;simpa using this,vB (vB yB yB) yB⟩
theorem NP.z(h:NP w W c cs)(a:tB W W'):NP w W' c cs:=⟨h.C.z a,h.N.z a,h.R.z a,vB h.B a⟩
theorem NP.put(h:NP w W c cs)(b:gB W' (w.1.size+1) cs' 42)(a:eB (·=w.1.size+1) W W'):NP w W' c cs':=
 ⟨a.blk h.C (by omega),b,a.blk h.R (by omega),h.B.trans (a.below h.B.size λk d e=>by omega)⟩
theorem NP.lt(h:NP w W c cs):w.1.size+1+1<W.1.size:=aB h.R
theorem NP.cells(h:NP w W c cs)(a:cs.size=14):W.cell? (dB w.1.size 0)=bA (zA c.w)/\W.cell? (dB w.1.size 1)=bA (zA c.tl)/\W.cell? (dB w.1.size 2)=bA (zA c.ml)/\W.cell? (dB w.1.size 3)=bA (zA c.sh)/\W.cell? (dB w.1.size 4)=bA (zA c.ha)/\W.cell? (dB w.1.size 5)=bA (zA c.sg)/\gB W (w.1.size+1) cs 42/\oK W (w.1.size+1)/\oK W (w.1.size+1+1)/\w.1.size<W.1.size/\w.1.size+1<W.1.size/\w.1.size+1+1<W.1.size/\¬w.1.size=W.1.size/\¬w.1.size+1=W.1.size/\¬w.1.size+1+1=W.1.size:=
 have:=h.lt
 ⟨h.C.cell 0,h.C.cell 1,h.C.cell 2,h.C.cell 3,h.C.cell 4,h.C.cell 5,h.N,h.N.box a,h.R.box rfl,by omega,by omega,this,by omega,by omega,by omega⟩
end
def bz{a:List qE}(h:dD a<=1400000):aJy a:=λi b=>by
 have d:=yT a i b;have e:=nX a (i+1);omega
def xm:(prog.info? 42).map (·.size)=bA 14:=by kernel_rfl
def RN(M:pC)(x:iA)(w:eA)(e:Ending)(c:eA):Prop:=
 ∃a f b g,e=uA (.tuple #[tA (dC a f b g M),x])/\rB c a M.d.fs/\uC c b M.ts/\tB w c
def qu(V:pC×Int)(w:eA)(e:Ending)(a:eA):Prop:=RN V.1 (zA V.2) w e a
def qn{b:Func}{a:Act}{W:eA}{R i j:Nat}{cs:Array iA}{T:jA}{x:iA}(h:b.results=#[.cell i 42,.tmp j])(c:a.tmps.getD i undef=.pointer (pB R))(d:a.tmps.getD j undef=x)(e:gB W R cs T)(f:C14 cs):(results b a.tmps).run prog W=.ok (.tuple #[tA cs,x]) W:=by
 have:=run_loadVar_row (P:=prog) W R T 42 cs (0,0) _ e underlying42 rfl (by rw[xm,f.size]);simp at c d;simp[results,h,c,d,asAddr,this]
def bU{l:Func}{t:Act}{w W:eA}{R i j:Nat}{cs:Array iA}{T:jA}{M:pC}{x:iA}{a b:jC}{f g:Nat}(h:l.results=#[.cell i 42,.tmp j])(o:t.tmps.getD i undef=.pointer (pB R))(p:t.tmps.getD j undef=x)(u:t.defers=[])(c:gB W R cs T)(n:∀(j:Nat)(s:nB),cs[j]?≠bA (iA.string s))(z:w.1.size<=R)(m:tB w W)(q:rB W a M.d.fs)(r:uC W b M.ts):bodyPost prog l (λe v=>RN M x w e v) .ret t (W.setRow R (dC a f b g M)):=
 bodyPost_ret (qn h o p c.row (uG _ _ _ _ _)) u ⟨a,f,b,g,rfl,q.store c n (lG _ _ _),r.store c n (lG _ _ _),m.trans ((lG _ _ _).below m.size λk y e=>by omega)⟩
def aX{g:Func}{t:Act}{w W:eA}{i j:Nat}{c:gC}{cs:Array iA}{V:pC×Int}{M:pC}{f:Int}{a b:jC}{ca cb:Nat}(h:g.results=#[.cell i 42,.tmp j])(k:t.tmps.getD i undef=.pointer (pB (w.1.size+1+1)))(l:t.tmps.getD j undef=zA f)(o:t.defers=[])(P:NP w W c cs)(E:V=(M,f))(m:rB W a M.d.fs)(n:uC W b M.ts):bodyPost prog g (λe p=>qu V w e p) .ret t (W.setRow (w.1.size+1+1) (dC a ca b cb M)):=by
 subst E;exact bU h k l o P.R (kF _ _ _ _ _) (by omega) P.B m n
def aNw{N:pC}{b:Bool}(h:ub N=b):b=cA/\N.up=cA\/b=cA/\N.up=dA/\N.deg=dA\/b=dA/\N.up=dA/\N.deg=cA:=by
 subst h;unfold ub;cases N.up<;>cases N.deg<;>simp
section
open Go.Maps
attribute [local go_sem] wF uG fK gB.drewI oK.drewI oK.new oK.alloc oK.alloc2
def gF(n:Int)(w:eA)(b : -9223372036854775808<=n)(c:n<=9223372036854775807):vE 50 #[zA n] w (oA (qB 1 n)):=by
 have H:=cB (λW=>fD 1 n W (by omega) b c);go_enter func50,ntmps50;go_wp2_with fail;apply hC (H.o _);intro f a;replace a:=cB a;go_wp2;go_ret;exact⟨rfl,a.o⟩
def bN(N:pC)(a:Int)(b:nB):nB:=if a=0 then b else if a=22\/a=23\/a=21\/a=62 then qB 1 2 else if N.up=cA then qB 1 4 else qB 1 3
def aLk{N:pC}{code:Int}{reply:nB}:(code==0)=dA/\bN N code reply=reply\/(code==0)=cA/\(((code==22)=dA\/(code==22)=cA/\((code==23)=dA\/(code==23)=cA/\((code==21)=dA\/(code==21)=cA/\(code==62)=dA)))/\bN N code reply=qB 1 2\/(code==22)=cA/\(code==23)=cA/\(code==21)=cA/\(code==62)=cA/\(N.up=cA/\bN N code reply=qB 1 4\/N.up=dA/\bN N code reply=qB 1 3)):=by
 unfold bN;by_cases a:code=0
 .exact Ca ⟨by simpa using a,Ma a⟩
 refine La ⟨by simpa using a,?_⟩;rw[Ja a];by_cases b:code=22\/code=23\/code=21\/code=62
 .exact Ca ⟨by rcases b with h|h|h|h<;>simp[h],Ma b⟩
 refine La ⟨by simp;omega,by simp;omega,by simp;omega,by simp;omega,?_⟩;rw[Ja b];cases N.up
 .exact Ca ⟨rfl,Ma rfl⟩
 exact La ⟨rfl,Ja (by simp)⟩
def uW(a b:jC)(g i:Nat)(N:pC)(f:Int)(c:nB)(w:eA)(r:rB w a N.d.fs)(s:uC w b N.ts):
 Calls prog 56 #[tA (dC a g b i N),zA f,oA c] w λe j=>RN N (oA (bN N f c)) w e j:=by
 have l:=cB r;have n:=cB s;have d:=aLk (N:=N) (code:=f) (reply:=c);clear r s;generalize bN N f c=V at *;have E:=yK;obtain⟨v,rfl⟩|⟨v,⟨o|⟨o,p|⟨p,q|⟨q,x⟩⟩⟩,rfl⟩|⟨o,p,q,x,⟨t,rfl⟩|⟨t,rfl⟩⟩⟩:=d
 all_goals
  have A:=eF a g b i N 42;have y:=lE a g b i N;(try rw[t]at A y);have X:=cB ((gB.new w (dC a g b i N) 42).alloc (vA (dC aA 0 aA 0 xK) 42));have R:=gB.new (w.alloc (vA (dC a g b i N) 42)) (dC aA 0 aA 0 xK) 42;rw[eA.size_alloc]at R;replace R:=cB R;have B:=cB (vB (pF w (vA (dC a g b i N) 42)) (pF _ (vA (dC aA 0 aA 0 xK) 42)));go_enter func56,ntmps56;go_upto_region 1 with fail;generalize (w.alloc (vA (dC a g b i N) 42)).alloc (vA (dC aA 0 aA 0 xK) 42)=W at *;have F:=X.o;have G:=R.o.box rfl;have m:=cB (λj(h:tB W j)=>X.o.z h);have u:=cB (λj(h:tB W j)=>((lG j (w.1.size+1) (dC a g b i N)).blk (X.o.z h) (by omega):gB _ w.1.size _ _));go_wp2
 all_goals first
  |exact bU rfl rfl rfl rfl R.o (kF _ _ _ _ _) (by omega) B.o (l.o.z B.o) (n.o.z B.o)
  |skip
 all_goals
  go_region_held3 (λj=>gB j w.1.size (dC a g b i N) 42)
   (first|with_reducible exact m.o _ k|with_reducible exact m.o _ bD.drew|exact u.o _ k)
   (first|(go_at_call 50;refine hC (gF _ _ (by omega) (by omega)) ?_;intro C z;have k:tB W C:=(by with_reducible exact vB bD.drew z);have D:=(R.o.z k).box rfl))
  replace B:=cB (vB B.o k);go_wp2;exact bU rfl rfl rfl rfl (R.o.z k) (kF _ _ _ _ _) (by omega) B.o (l.o.z B.o) (n.o.z B.o)
end
def aFo{c:gC}{b a:Int}{d:List fB}(h:kC c b d=dA):uD c.w a (DD ⟨⟨#[]⟩,0,[],[]⟩ dA d)=uD c.w a d:=by
 rw[eU (t:=⟨⟨#[]⟩,0,[],[]⟩) (gq h)]
def aHa:WO ⟨⟨#[]⟩,0,[],[]⟩:=⟨Oa _,Oa _,λi h=>absurd h (by simp)⟩
def FW(c:gC)(h:Int)(a:jC)(l:Nat)(k:List fB)(i:Int)(w:eA)(C:uC w a k)(m:yA k+aC k<=1900000)(r:kC c h k=dA):
 Calls prog 57 #[jE c,tA #[zA h,pA a (yA k) l],zA i] w λe D=>nT (uV c h k i) w e D:=by
 obtain⟨d,b,f,g⟩:=rP m;obtain⟨-,o,o,y,-⟩:=yG r;have F:=cB (λW(u:tB w W)=>jH c h a l k W (C.z u) b (by omega));have q:=cB (λW(u:tB w W)=>rS c h a l k W (C.z u) r m);have G:bB (∀W j,tB w W->0<=j->j<=1000000000000->Calls prog 119 #[jE c,tA #[zA h,pA a (yA k) l],zA j,tA #[oA ⟨#[]⟩,zA 0,pA aA 0 0,pA aA 0 0]] W λe D=>∃M t,e=uA (tA #[zA j,.slice M (yA (uD c.w j k)) t])/\zC D W.1.size M (uD c.w j k)/\tB W D):=λW j u o B=>by
  have:=CG c h j a l k ⟨⟨#[]⟩,0,[],[]⟩ aA aA 0 0 W (C.z u) (Ca rfl) (Ca rfl) (by omega) (λx B=>B.elim (λe=>e ▸ aHa) (LW r m x)) o (by omega);rw[show(⟨⟨#[]⟩,0,[],[]⟩:fB).N.toList.isEmpty=dA from by kernel_rfl,aFo r]at this;exact this
 have I:(i<1\/¬i<1/\1000000000000-h<i)/\uV c h k i=(h,k,cA)\/¬i<1/\¬1000000000000-h<i/\uV c h k i=(h+i,uD c.w (h+i) k,dA):=by
  unfold uV;rw[Ja (by rw[r];simp)];by_cases A:i<1<;>by_cases H:1000000000000-h<i<;>simp[A,H]
 rw[r]at F;clear C m d b f g r y;unfold nT;unfold jE at *;have P:=cB (AL.new (w:=w) (c:=c) (now:=h) (a:=a) (n:=yA k) (cap:=l));generalize uV c h k i=V at *;obtain⟨A|⟨A,H⟩,E⟩|⟨A,H,E⟩:=I
 all_goals
  have E:=cB E;go_enter func57,ntmps57;go_wp2_with(first
   |(go_at_call 49;apply hC (F.o _ P.o.B);intro m o;replace P:=cB (P.o.z o);clear o F;obtain⟨O,Q,R,S,T,U,X,Y,-,-,-,-,N⟩:=P.o.cells)
   |(go_at_call 109;refine(q.o _ P.o.B).mono ?_;rintro e B ⟨K,L,rfl,z,o⟩;have s:=cB (P.o.z o);have p:=cB z;clear z o O Q R S T U X Y q;obtain⟨-,-,-,-,-,-,-,-,Z,m,I,W,J⟩:=s.o.cells)
   |(go_at_call 119;refine(G.o _ (h+i) P.o.B (by omega) (by omega)).mono ?_;rintro e B ⟨K,L,rfl,z,o⟩;have s:=cB (P.o.z o);have p:=cB z;clear z o O Q R S T U X Y q;obtain⟨-,-,-,-,-,-,-,-,Z,m,I,W,J⟩:=s.o.cells))
  refine bodyPost_ret (v:=?_) (by simp[results,results57,go_sem,Z,m];rfl) rfl ?_;rw[E.o];first
   |exact⟨K,⟨L,rfl⟩,s.o.done p.o N⟩
   |exact⟨K,L,rfl,s.o.done p.o N⟩
def aDb:(prog.info? 115).map (λi=>(i.zero,i.size,i.bytes))=bA (bA (tA #[zA 0,oA ⟨#[]⟩,oA ⟨#[]⟩,oA ⟨#[]⟩,zA 0]),5,64):=by kernel_rfl
def GH(w:eA)(B:Nat)(v:iA)(n:Nat)(l:List pK):Prop:=w.ownsRow B 115 5 v n (vN l)
def GH.z{w a:eA}{B n:Nat}{v:iA}{l:List pK}(h:GH w B v n l)(b:tB w a):GH a B v n l:=eC h b
def GH.new(w:eA):GH (w.alloc (vA #[] 115)) w.1.size (pA (pB w.1.size) 0 0) 0 []:=eA.ownsRow_made w #[] 0 (Ia _) (by simp[maxLen]) (by simp)
def nc(l:List pK)(o:pK):vN (l++[o])=vN l++[zA o.K,oA o.N,oA o.tq,oA o.data,zA o.size]:=by simp[vN]
def JD{A:Array Oper}{c:List Oper}{o:Oper}{a:Act}{Q:Exit->Act->eA->Prop}{w:eA}(u:o.guard=aA)(s x:Operand)
(H:o.op=.call { callee:=.builtin .append,args:=#[s,x],argTypes:=#[221,221] })
(B n:Nat)(v:iA)(l:List pK)(k z:Int)(m p f:nB)(I:a.eval s=v)(y:bB (GH w B v n l))(J:a.eval x=pA (pB w.1.size) 1 1)(K:n<=2000000)(F:B<=w.1.size)
(h:∀g b r,bB (GH r B (pA (pB g) (n+1) b) (n+1) (l++[⟨k,m,p,f,z⟩]))->Below B w r->wpList prog A Q c (a.put o.dst (pA (pB g) (n+1) b)) r):
 wpList prog A Q (o::c) a (w.alloc (vA #[zA k,oA m,oA p,oA f,zA z] 115)):=by
 obtain⟨i,G,C,D,E⟩:=info_parts aDb;refine wpList_append_lies _ u s x _ H B 115 i _ 5 64 underlying221 G C D E rfl (by omega) v n (vN l) I (eA.ownsRow.alloc y.o _) (dB w.1.size 0) 1 1 [zA k,oA m,oA p,oA f,zA z] J rfl (by
  have:=eA.news_of_block (cs:=#[zA k,oA m,oA p,oA f,zA z]) (t:=115) (fr:=(0,0)) (heap_alloc_new w (vA #[zA k,oA m,oA p,oA f,zA z] 115));simpa using this) (by simp[iA.oneCell']) (by omega) (by simp[maxLen];omega) (by omega) (by simp;omega) (w.1.size+1) (by simp) ?_
 intro g b r j d _ _;refine h g b r ?_ ?_;show eA.ownsRow _ _ _ _ _ _ _;rw[nc];exact j;exact (yB.mono F).trans ((eB.grown d).below (by simp;omega) (λq L e=>by have:=(y.o.lt q e).1;omega))
def yP(c:gC)(s:nB):Int:=if c.ha=1 then 0 else if c.ha=2 then(s.size:Int) % c.sh else((gV s.data.toList:Nat):Int) % c.sh
def aAo{r:Nat}(h:r<18446744073709551616):IntKind.u64.wrap (w64 r)=(r:Int):=by
 simp only[IntKind.wrap,IntKind.bits,IntKind.signed,w64];simp;split<;>omega
def jg(c:gC)(s:nB)(w:eA)(k:s.size<=maxLen)(q:1<=c.sh)(r:c.sh<=1000000):
 vE 31 #[jE c,oA s] w (zA (yP c s)):=by
 have l:bB (∀W,hI 95 #[oA s] W (zA (w64 (gV s.data.toList)))):=λW=>YG s W k;unfold maxLen at k;unfold jE;have f:c.sh≠0:=by omega
 by_cases b:c.ha=1
 .have a:bB (yP c s=0):=by show _=_;unfold yP;rw[Ma b]
  go_enter func31,ntmps31;go_wp2;go_ret;exact⟨zE (by rw[a.o]),yB⟩
 by_cases i:c.ha=2
 .have a:bB (yP c s=(s.size:Int) % c.sh):=by show _=_;unfold yP;rw[Ja b,Ma i]
  go_enter func31,ntmps31;go_wp2;go_ret;refine⟨zE ?_,yB⟩;rw[a.o]
 have a:bB (yP c s=((gV s.data.toList:Nat):Int) % c.sh):=by show _=_;unfold yP;rw[Ja b,Ja i]
 have d:=dv s.data.toList;generalize gV s.data.toList=H at *;have o:=aAo d;have n:IntKind.u64.wrap c.sh=c.sh:=by
  simp only[IntKind.wrap,IntKind.bits,IntKind.signed];simp;omega
 go_enter func31,ntmps31;have m:(w.alloc (vA #[zA c.w,zA c.tl,zA c.ml,zA c.sh,zA c.ha,zA c.sg] 24)).cell? (dB w.1.size 3)=bA (zA c.sh):=(gB.new _ _ _).cell 3;have p:=iC.cells m;have j:=iC.there (w.alloc (vA #[zA c.w,zA c.tl,zA c.ml,zA c.sh,zA c.ha,zA c.sg] 24));go_wp2_with fail;refine wB (by kernel_rfl) (by kernel_rfl) ?_;repeat (go_big_quiet_step (first|(go_at_call 95;exact wC (l.o _))|fail))
 refine wpQuiet_nil ?_;rintro _ ⟨y,rfl⟩;go_wp2;go_ret;refine⟨zE ?_,vB yB y.h⟩;rw[a.o];have u:=Int.emod_lt_of_pos (H:Int) (show 0<c.sh by omega);have t:=Int.emod_nonneg (H:Int) f;generalize (H:Int) % c.sh=X at *;first|go_num|(unfold wrap64;omega)
def LH(r:dG)(g:jC)(d:Nat)(c:gC)(a:jC)(e:Nat)(b:jC)(f:Nat)(N:pC)(l:Nat):Array iA:=#[zA r.K,oA r.T,oA r.R,zA r.U,pA g (yA r.P) d,zA c.w,zA c.tl,zA c.ml,zA c.sh,zA c.ha,zA c.sg,pA a (yA N.d.fs) e,zA N.d.c,zA N.d.k,zA N.d.cr,zA N.d.fl,qA N.d.dn,zA N.l.first,zA N.l.last,zA N.l.size,zA N.now,pA b (yA N.ts) f,zA N.lsn,qA N.deg,qA N.up,.pointer (pB l)]
def aNe{r:dG}{g:jC}{d:Nat}{c:gC}{a:jC}{e:Nat}{b:jC}{f:Nat}{N:pC}{l:Nat}{T:jA}:∀W D,gB W D (LH r g d c a e b f N l) T->W.cell? (dB D 0)=bA (zA r.K)/\W.cell? (dB D 1)=bA (oA r.T)/\W.cell? (dB D 2)=bA (oA r.R)/\W.cell? (dB D 3)=bA (zA r.U)/\W.cell? (dB D 4)=bA (pA g (yA r.P) d)/\W.cell? (dB D 5)=bA (zA c.w)/\W.cell? (dB D 6)=bA (zA c.tl)/\W.cell? (dB D 7)=bA (zA c.ml)/\W.cell? (dB D 8)=bA (zA c.sh)/\W.cell? (dB D 9)=bA (zA c.ha)/\W.cell? (dB D 10)=bA (zA c.sg)/\W.cell? (dB D 11)=bA (pA a (yA N.d.fs) e)/\W.cell? (dB D 12)=bA (zA N.d.c)/\W.cell? (dB D 13)=bA (zA N.d.k)/\W.cell? (dB D 14)=bA (zA N.d.cr)/\W.cell? (dB D 15)=bA (zA N.d.fl)/\W.cell? (dB D 16)=bA (qA N.d.dn)/\W.cell? (dB D 17)=bA (zA N.l.first)/\W.cell? (dB D 18)=bA (zA N.l.last)/\W.cell? (dB D 19)=bA (zA N.l.size)/\W.cell? (dB D 20)=bA (zA N.now)/\W.cell? (dB D 21)=bA (pA b (yA N.ts) f)/\W.cell? (dB D 22)=bA (zA N.lsn)/\W.cell? (dB D 23)=bA (qA N.deg)/\W.cell? (dB D 24)=bA (qA N.up)/\W.cell? (dB D 25)=bA (.pointer (pB l)):=
 λ_ _ h=>⟨h.cell 0,h.cell 1,h.cell 2,h.cell 3,h.cell 4,h.cell 5,h.cell 6,h.cell 7,h.cell 8,h.cell 9,h.cell 10,h.cell 11,h.cell 12,h.cell 13,h.cell 14,h.cell 15,h.cell 16,h.cell 17,h.cell 18,h.cell 19,h.cell 20,h.cell 21,h.cell 22,h.cell 23,h.cell 24,h.cell 25⟩
def eI{W:eA}{D:Nat}{T:jA}{r:dG}{g:jC}{d:Nat}{c:gC}{a:jC}{e:Nat}{b:jC}{f:Nat}{N:pC}{l:Nat}(h:gB W D (LH r g d c a e b f N l) T):(W.cell? (dB D 0)=bA (zA r.K)/\W.cell? (dB D 1)=bA (oA r.T)/\W.cell? (dB D 2)=bA (oA r.R)/\W.cell? (dB D 3)=bA (zA r.U)/\W.cell? (dB D 4)=bA (pA g (yA r.P) d)/\W.cell? (dB D 5)=bA (zA c.w)/\W.cell? (dB D 6)=bA (zA c.tl)/\W.cell? (dB D 7)=bA (zA c.ml)/\W.cell? (dB D 8)=bA (zA c.sh)/\W.cell? (dB D 9)=bA (zA c.ha)/\W.cell? (dB D 10)=bA (zA c.sg)/\W.cell? (dB D 11)=bA (pA a (yA N.d.fs) e)/\W.cell? (dB D 12)=bA (zA N.d.c)/\W.cell? (dB D 13)=bA (zA N.d.k)/\W.cell? (dB D 14)=bA (zA N.d.cr)/\W.cell? (dB D 15)=bA (zA N.d.fl)/\W.cell? (dB D 16)=bA (qA N.d.dn)/\W.cell? (dB D 17)=bA (zA N.l.first)/\W.cell? (dB D 18)=bA (zA N.l.last)/\W.cell? (dB D 19)=bA (zA N.l.size)/\W.cell? (dB D 20)=bA (zA N.now)/\W.cell? (dB D 21)=bA (pA b (yA N.ts) f)/\W.cell? (dB D 22)=bA (zA N.lsn)/\W.cell? (dB D 23)=bA (qA N.deg)/\W.cell? (dB D 24)=bA (qA N.up)/\W.cell? (dB D 25)=bA (.pointer (pB l)))/\D<W.1.size/\¬D=W.1.size:=
 have:=aB h
 ⟨aNe _ _ h,this,by omega⟩
def aGn{C:eA->Prop}{w:eA}{D:Nat}{x y z A B E F G H I e J K L M N O P Q R S r s u v f g i j l m n T o q a b c d p:iA}{t:jA}(h:gB w D #[x,y,z,A,B,E,F,G,H,I,e,J,K,L,M,N,O,P,Q,R,S,r,s,u,v,p] t)(k:∀W,gB W D #[x,y,z,A,B,E,F,G,H,I,e,f,g,i,j,l,m,n,T,o,q,a,b,c,d,p] t->eB (·=D) w W->C W):C ((((((((((((((w.setCell (dB D 11) f).setCell (dB D 12) g).setCell (dB D 13) i).setCell (dB D 14) j).setCell (dB D 15) l).setCell (dB D 16) m).setCell (dB D 17) n).setCell (dB D 18) T).setCell (dB D 19) o).setCell (dB D 20) q).setCell (dB D 21) a).setCell (dB D 22) b).setCell (dB D 23) c).setCell (dB D 24) d):=
 k _ (by have:=((((((((((((((h.set 11 f).set 12 g).set 13 i).set 14 j).set 15 l).set 16 m).set 17 n).set 18 T).set 19 o).set 20 q).set 21 a).set 22 b).set 23 c).set 24 d);simpa using this) (((((((((((((((eB.refl (·=D) w).setCell (Ca rfl) 11 f).setCell (Ca rfl) 12 g).setCell (Ca rfl) 13 i).setCell (Ca rfl) 14 j).setCell (Ca rfl) 15 l).setCell (Ca rfl) 16 m).setCell (Ca rfl) 17 n).setCell (Ca rfl) 18 T).setCell (Ca rfl) 19 o).setCell (Ca rfl) 20 q).setCell (Ca rfl) 21 a).setCell (Ca rfl) 22 b).setCell (Ca rfl) 23 c).setCell (Ca rfl) 24 d)
def bT(M:pC)(x:Int):Int:=if x=0 then 0 else if x=22\/x=23\/x=21\/x=62 then 2 else if M.up=cA then 4 else 3
def aMf(M:pC)(x:Int):(x==0)=dA/\bT M x=0\/(x==0)=cA/\(((x==22)=dA\/(x==22)=cA/\((x==23)=dA\/(x==23)=cA/\((x==21)=dA\/(x==21)=cA/\(x==62)=dA)))/\bT M x=2\/(x==22)=cA/\(x==23)=cA/\(x==21)=cA/\(x==62)=cA/\(M.up=cA/\bT M x=4\/M.up=dA/\bT M x=3)):=by
 unfold bT;cases M.up<;>grind
section
open Go.Maps
def vm(l m:Nat)(a met:nB)(c:gC)(g:Int)(B:Nat->Prop)(k:List fB)(M:Nat)(w:eA)(h:eE w B l m c g k M)(W:a.size<=maxLen)(H:met.size<=maxLen)(G : -1<=(xB k a).L):
 vE 163 #[.pointer (pB l),oA a,oA met] w (.tuple #[zA (kE c (xB k a) met).1,zA (kE c (xB k a) met).2]):=by
 have f:bB (Calls prog 29 #[.pointer (pB l),oA a] w λe n=>GL c g k l m a w e n):=OI l m a c g B k M w h W;clear h;unfold GL at f;generalize xB k a=t at *;by_cases s:met.toList.isEmpty=dA
 .have o:bB (kE c t met=(((yA t.Z:Nat):Int),if t.L = -1 then c.tl else t.L)):=by
   show _=_;unfold kE;rw[Ma s];by_cases p:t.L = -1
   .rw[Ma p,Ma (by omega)]
   rw[Ja p,Ja (by omega)]
  go_enter func163,ntmps163;go_wp2_with fail;refine f.o.mono ?_;rintro e i ⟨x,b,S,A,rfl,d,r,q⟩;have v:bB (hI 229 #[.pointer (pB l),.pointer (pB x)] i (zA (if t.L = -1 then c.tl else t.L))):=KF l m x c g t S A i r d;obtain⟨P,C,j,N,Q,L,D,d⟩:=d;have c2:tC i x 2 (.map (bA C)):=d.blk.cell 2;have O:=d.Z.len underlying185 3;rw[kM]at O;have J:yA Q=yA t.Z:=by rw[<-d.q1,Xa]
  rw[J]at O;have u:=cB q;clear d r J q f;generalize (if t.L = -1 then c.tl else t.L)=X at *;generalize yA t.Z=h at *;go_wp2_with fail;apply cO v.o;go_wp2;go_ret2;exact⟨aL (by rw[o.o]) (by rw[o.o]),u.o⟩
 .have V:met.toList.isEmpty=cA:=by simpa using s
  have o:bB (kE c t met=(((oI wD t.Z met:Nat):Int),tG t.M met c.ml)):=by show _=_;unfold kE;rw[Ja s]
  go_enter func163,ntmps163;clear s;go_wp2_with fail;refine f.o.mono ?_;rintro e i ⟨x,b,S,A,rfl,d,r,q⟩;have z:bB (∀y:iC i,hI 230 #[.pointer (pB l),.pointer (pB x),oA met] y.w' (zA (tG t.M met c.ml))):=λy=>vT l m x c g t S A met y.w' (r.z y.h) (d.z y.h) H;have E:bB (∀y:iC i,∃j,y.w'.cell? (dB x 3)=bA (.map (bA j))/\(Instr.lookup 187 (.map (bA j)) (oA met) cA).run prog y.w'=.ok (zA (oI wD t.Z met)) y.w'):=λy=>by
   obtain⟨P,C,j,N,Q,L,D,d⟩:=d.z y.h;exact⟨j,d.blk.cell 3,PN d.cnts (d.cnt met) H⟩
  obtain⟨P,C,j,N,Q,L,D,d⟩:=d;have F:tC i x 3 (.map (bA j)):=d.blk.cell 3;have T:=iC.cells F;have K:∀y:iC i,(Instr.lookup 187 (.map (bA j)) (oA met) cA).run prog y.w'=.ok (zA (oI wD t.Z met)) y.w':=λy=>by
   obtain⟨R,p,U⟩:=E.o y;rw[T y]at p;cases p
   exact U
  have u:=cB q;have I:=iC.there i;clear d r q f E F;generalize oI wD t.Z met=Y at *;generalize tG t.M met c.ml=Z at *;go_wp2_with fail;refine wB (by kernel_rfl) (by kernel_rfl) ?_;repeat (go_big_quiet_step (first|(go_at_call 230;exact wC (z.o _))|fail))
  refine wpQuiet_nil ?_;rintro _ ⟨y,rfl⟩;go_wp2;go_ret2;exact⟨aL (by rw[o.o]) (by rw[o.o]),vB u.o y.h⟩
end
section
open Go.Maps
attribute [local go_sem] wF uG gB.drewI
def QM{D l:Nat}{r:dG}{n a b a' b':jC}{m v y ca' cb':Nat}{c:gC}{N M:pC}{x:Int}{w:eA}(h:gB w D (LH r n m c a v b y N l) 92):
 Calls prog 160 #[.pointer (pB D),tA (dC a' ca' b' cb' M),zA x] w λe o=>e=uA (zA (bT M x))/\gB o D (LH r n m c a' ca' b' cb' M l) 92/\eB (·=D) w o:=by
 have q:=cB (aMf M x);have A:=eF a' ca' b' cb' M 42;have B:=cB (eB.of (S:=(·=D)) (pF w (vA (dC a' ca' b' cb' M) 42)));have H:=cB (h.alloc (vA (dC a' ca' b' cb' M) 42));have X:=cB (gB.new w (dC a' ca' b' cb' M) 42);have G:=aB h;generalize bT M x=V at *;clear h;go_enter func160,ntmps160;go_upto_region 1 with fail;generalize w.alloc (vA (dC a' ca' b' cb' M) 42)=W at *;have F:=eI H.o;have E:=λj=>H.o.free j;have p:=X.o;go_upto_region 2 with fail;refine aGn (C:=λW=>Code.wp prog _ _ _ W) H.o ?_;intro s k d;have I:gB s w.1.size (dC a' ca' b' cb' M) 42:=d.blk p (by omega);have z:=cB (Vc k (B.o.trans' d));clear F E p k d H X B;obtain⟨t,rfl⟩|⟨t,⟨f|⟨f,g|⟨g,i|⟨i,u⟩⟩⟩,rfl⟩|⟨f,g,i,u,⟨m,rfl⟩|⟨m,rfl⟩⟩⟩:=q.o
 all_goals
  (try rw[m]at A);go_wp2;go_ret;exact⟨rfl,z.o⟩
end
def aKm{c:gC}{N:pC}(h:cF c=cA):DF c N=(xK,61):=by unfold DF;rw[Ma h]
theorem jW:∀(a:List bC)(i:Nat),aD a i=aA ↔ ∀l∈a,tQ l=0
 |[],i=>by simp[aD]
 |l::r,i=>by
  rw[aD];by_cases h:tQ l=0
  .rw[Ma h,jW r (i+1)];simp[h]
  rw[Ja h];simp[h]
theorem AT:∀(b:List bC)(i c k:Nat),aD b i=bA (c,k)->c≠0
 |[],i,c,k,h=>by simp[aD]at h
 |l::r,i,c,k,h=>by
  rw[aD]at h;by_cases a:tQ l=0
  .rw[Ma a]at h;exact AT r _ c k h
  rw[Ja a]at h;simp only[Qa,Dc]at h;omega
theorem OK:∀(r a:List bC)(i:Nat),gU (a++r)->iF a r i=aA
 |[],_,_,_=>by simp[iF]
 |l::r,a,i,h=>by
  rw[iF];have c:¬a.any (λx=>mR x l)=dA:=by
   intro b;rw[Zd]at b;obtain⟨x,d,e⟩:=b;unfold gU at h;rw[Ae]at h;exact h.2.2 x d l (by simp) ((VY _ _).1 e)
  rw[Ja c];exact OK r _ _ (by simpa using h)
def MV{a:List bC}(b:yA a<=16)(c:∀l∈a,tQ l=0)(d:gU a)(e:rR a=dA):uB a=(aG [] a,0,0):=by grind [MX,jW,OK]
def vb{a:List bC}(h:(uB a).2.1=0):yA a<=16/\(∀l∈a,tQ l=0)/\gU a/\rR a=dA:=by grind [uB,tQ,gU,rR,aD,iF,BP,qZ,AT,eY,GU,jW,se]
def yz{b a:List bC}(c:a.Perm b)(h:gU b):gU a:=by
 unfold gU at *;exact(c.pairwise_iff (fun{x y} e=>Ne.symm e)).2 h
def lv{a:List bC}(h:(uB a).2.1=0):uB (uB a).1=((uB a).1,0,0):=by
 obtain⟨m,g,i,j⟩:=vb h;rw[MV m g i j];simp only;have d:(aG [] a).Perm (pL a):=(oL a []).trans (by rw[Mb]);have k:∀l∈aG [] a,l∈a/\pS l=cA:=λl c=>by
  have:=De.1 (d.mem_iff.1 c);exact⟨this.1,by simpa using this.2⟩
 have b:gU (aG [] a):=yz d (i.sublist Pf);have n:pL (aG [] a)=aG [] a:=by
  unfold pL;rw[Jc];intro l c;rw[(k l c).2];rfl
 have f:rR (aG [] a)=dA:=by
  unfold rR at *;rw[Zd]at *;obtain⟨x,o,e⟩:=j;refine⟨x,d.mem_iff.2 (De.2 ⟨o,?_⟩),e⟩;simp only[Sa]at e;exact e.1
 rw[MV (by rw[d.length_eq];have:=yZ a;omega) (λl c=>g l (k l c).1) b f];congr 1;exact(WC b (by rw[n]) (pU a [] Gd)).symm
def dq{a:List bC}(h:(uB a).2.1=0):dO (uB a).1=dA:=by
 unfold dO;rw[lv h];simp[bX]
def dr{a:List bC}(h:(uB a).2.1=0):rI (uB a).1=tH (uB a).1/\nG (tH (uB a).1)=((uB a).1,dA):=⟨by unfold rI;rw[Ma (dq h)],cz (dq h)⟩
def YS{w:eA}{g f h i j k:Nat}{l m n o p:iA}:w.cell? (dB g f)=bA l/\w.cell? (dB g h)=bA m/\w.cell? (dB g i)=bA n/\w.cell? (dB g j)=bA o/\w.cell? (dB g k)=bA p->(∀x:iC w,x.w'.cell? (dB g f)=bA l)/\(∀x:iC w,x.w'.cell? (dB g h)=bA m)/\(∀x:iC w,x.w'.cell? (dB g i)=bA n)/\(∀x:iC w,x.w'.cell? (dB g j)=bA o)/\∀x:iC w,x.w'.cell? (dB g k)=bA p:=
 fun⟨a,b,c,d,e⟩=>⟨iC.cells a,iC.cells b,iC.cells c,iC.cells d,iC.cells e⟩
def nr(r:dG)(a:jC)(k:Nat)(w:eA)(o:dJ w a r.P)(h:VR r)(C:iR w):
 vE 83 #[tA #[zA r.K,oA r.T,oA r.R,zA r.U,pA a (yA r.P) k]] w (oA (uK r)):=by
 obtain⟨s,Q⟩:=h.bulk;have P:=h.sz;have D:=h.ok.1;obtain⟨i,N⟩:∃i:Nat,r.K=(i:Int):=⟨r.K.toNat,by omega⟩
 have q:=cB (gB.new w #[zA r.K,oA r.T,oA r.R,zA r.U,pA a (yA r.P) k] 47);have m:=cB (pF w (vA #[zA r.K,oA r.T,oA r.R,zA r.U,pA a (yA r.P) k] 47));have z:=cB (λW=>UU D W);have v:=cB (λW=>aHb a k W h.ok);have u:=cB (λW(l:tB w W)=>XO r a k W (o.z l) h.ok);have B:=cB (λW(l:tB w W)=>au r a k W (o.z l) (by omega));have J:=cB (λW(l:tB w W)=>mu r a k W (o.z l) (by omega) h.ok);have A:bB (∀W,tB w W->tC W 0 (i*5) (qA (zU i))/\tC W 0 (i*5+1) (qA ((i:Int)==1))/\tC W 0 (i*5+2) (qA (yU i))/\tC W 0 (i*5+3) (qA (mV i))/\tC W 0 (i*5+4) (qA ((i:Int)==1||(i:Int)==2||(i:Int)==3||(i:Int)==4))):=λW l=>have t:=λj O=>(C.z l).2 i j (by omega) O;⟨t 0 (by omega),t 1 (by omega),t 2 (by omega),t 3 (by omega),t 4 (by omega)⟩;clear o C h s;unfold shV at *;generalize uK r=S at *;generalize r.T.size+r.R.size+bP r.P=T at *;have U:(i:Int)<7:=by omega
 clear D;rw[N]at *;go_enter func83,ntmps83;go_upto_region 1 with fail;generalize w.alloc (vA #[zA i,oA r.T,oA r.R,zA r.U,pA a (yA r.P) k] 47)=K at *;have n:=iC.there K;obtain⟨E,F,G,H,I⟩:=YS q.o.c5;obtain⟨b,c,d,f,g⟩:=YS (A.o _ m.o);go_wp2_with fail;refine wB (by kernel_rfl) (by kernel_rfl) ?_;repeat (go_big_quiet_step (first|exact mC (z.o _)|exact mC (v.o _)|exact mC (u.o _ (vB m.o (iC.h _)))|exact mC (B.o _ (vB m.o (iC.h _)))))
 refine wpQuiet_nil ?_;rintro _ ⟨x,rfl⟩;have p:=cB (vB m.o x.h);have M:=cB (q.o.z x.h);clear z v u B E F G H I b c d f g n q m;generalize x.w'=L at *;have n:=iC.there L;obtain⟨E,F,G,H,I⟩:=YS M.o.c5;obtain⟨b,c,d,f,g⟩:=YS (A.o _ p.o);go_wp2_with fail;refine wB (by kernel_rfl) (by kernel_rfl) ?_;repeat (go_big_quiet_step (exact mC (J.o _ (vB p.o (iC.h _)))))
 refine wpQuiet_nil ?_;rintro _ ⟨y,rfl⟩;go_wp2;go_ret;exact⟨rfl,vB p.o y.h⟩
def cf(p q:iA)(w:eA):
 CallsD prog 80 #[p,q] .returning w λe c d=>e=uA (.tuple #[])/\c=.returning/\d=w:=by
 refine callsD_of_wpS func80 rfl λa cs b=>?_;apply wpS_seq;apply wpS_region;simp[wpOpsS,go_sem,recoverD,b,ntmps80,Exit.thenS];refine wpS_cond (t:=cA) (by simp[Act.eval,Array.replicate]) ?_;simp only[Bd,Cf];refine wpS_of_wp (wp_skip ?_);cases a
 simp_all[bodyPostS,results,results80]
structure DB(w W:World)(cs:Array Value)(av:jC)(xs:List oF):Prop where
 R:gB W w.1.size cs 47
 K:gB W (w.1.size+1) #[qA cA] 4
 O:qG W (w.1.size+1+1) av xs
 N:tB w W
section
variable {w W W':eA} {cs:Array iA} {av:jC} {xs:List oF}
theorem DB.z(h:DB w W cs av xs)(a:tB W W'):DB w W' cs av xs:=⟨h.R.z a,h.K.z a,h.O.z a,vB h.N a⟩
theorem DB.set(h:DB w W cs av xs)(i:Nat)(v:iA):DB w (W.setCell (dB w.1.size i) v) (cs.setIfInBounds i v) av xs:=
 have a:pD w.1.size W (W.setCell (dB w.1.size i) v):=(pD.refl _ _).setCell i v
 ⟨h.R.set i v,h.K.but a (by omega),h.O.but a (by omega),h.N.setCell (by simp) _⟩
end
def ec(r:dG)(w:eA)(h:VR r)(x:iR w):Calls prog 25 #[oA (uK r)] w λe L=>bh r w e L:=by
 obtain⟨g,d⟩:∃g,((w.alloc (vA #[zA 0,oA kA,oA kA,zA 0,pA aA 0 0] 47)).alloc (vA #[qA cA] 4))=g:=⟨_,rfl⟩
 have j:g.1.size=w.1.size+1+1:=by rw[<-d];simp
 have y:tB w g:=d ▸ vB yB yB;have B:DB w g #[zA 0,oA kA,oA kA,zA 0,pA aA 0 0] aA []:=⟨d ▸ (gB.new _ _ _).alloc _,by have:=gB.new (w.alloc (vA #[zA 0,oA kA,oA kA,zA 0,pA aA 0 0] 47)) #[qA cA] 4;rw[<-d];simpa using this,Ca rfl,y⟩
 have c:=pF g (vA #[oA (uK r),qA cA] 172);have X:=gB.new g #[oA (uK r),qA cA] 172;rw[j]at X;have l:=cB (aEt h X (x.z (vB y c)) (by have:=x.1;omega));have C:bB (∀k av,pD (w.1.size+1+1) (g.alloc (vA #[oA (uK r),qA cA] 172)) k->qG k (g.alloc (vA #[oA (uK r),qA cA] 172)).1.size av r.P->DB w k #[zA 0,oA kA,oA kA,zA 0,pA aA 0 0] av r.P):=λk av A J=>
  have z:=B.z c
  ⟨z.R.but A (by omega),z.K.but A (by omega),J.mono (by simp[j]),z.N.trans (A.below (by omega) (by simp[j];omega))⟩
 have m:=cB (λW av i(H:dJ W av r.P)(I:tB w W)=>nr r av i W H h (x.z I));unfold bh;clear h x X c B y;generalize uK r=s at *;subst d;generalize r.P=xs at *;generalize r.K=K at *;generalize r.T=G at *;generalize r.R=E at *;generalize r.U=F at *;clear j;go_enter_defers func25,ntmps25;go_wp2_with fail;refine l.o.mono ?_;rintro e k ⟨av,i,rfl,o,c⟩;have D:=cB (C.o k av c o);clear o c l C;obtain⟨p,q,t,u,v⟩:=D.o.R.c5;have a:=D.o.R.free;go_wp2_with fail;replace D:=cB (((((D.o.set 0 (zA K)).set 1 (oA G)).set 2 (oA E)).set 3 (zA F)).set 4 (pA av (yA xs) i));clear p q t u v a;generalize (((((k.setCell (dB w.1.size 0) (zA K)).setCell (dB w.1.size 1) (oA G)).setCell (dB w.1.size 2) (oA E)).setCell (dB w.1.size 3) (zA F)).setCell (dB w.1.size 4) (pA av (yA xs) i))=Q at *;obtain⟨p,q,t,u,v⟩:=D.o.R.c5;try go_wp2_with fail
 apply hC (m.o _ _ _ D.o.O.P D.o.N);intro T n;replace D:=cB (D.o.z n);clear n m p q t u v;obtain⟨p,q,t,u,v⟩:=D.o.R.c5;have a:=D.o.R.free;have P:=D.o.K.cell 0;have b:=D.o.K.free 0;go_wp2_with fail;refine oD (MA _ _) ?_;go_wp2;refine leaves_cons (f:=80) (args:=#[.pointer (pB w.1.size),.pointer (pB (w.1.size+1))]) (by simp) (by simp[go_sem]) ?_;refine(cf _ _ _).mono ?_;rintro e S M ⟨rfl,rfl,rfl⟩;simp[Leaves,settle,results,results25,go_sem,p,q,t,u,v,P];exact⟨((((((D.o.O.but ((pD.refl w.1.size _).setCell 0 _) (by omega)).but ((pD.refl w.1.size _).setCell 1 _) (by omega)).but ((pD.refl w.1.size _).setCell 2 _) (by omega)).but ((pD.refl w.1.size _).setCell 3 _) (by omega)).but ((pD.refl w.1.size _).setCell 4 _) (by omega)).but ((pD.refl (w.1.size+1) _).setCell 0 _) (by omega)).mono (by omega),((((((D.o.N.setCell (by simp) _).setCell (by simp) _).setCell (by simp) _).setCell (by simp) _).setCell (by simp) _).setCell (by simp) _)⟩
