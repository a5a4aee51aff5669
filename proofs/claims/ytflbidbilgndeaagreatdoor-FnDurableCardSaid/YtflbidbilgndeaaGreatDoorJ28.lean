import Derived.Test.YtflbidbilgndeaaGreatDoorJ26
import Derived.Test.YtflbidbilgndeaaGreatDoorJ25
import Derived.Test.YtflbidbilgndeaaGreatDoorJ23
set_option maxRecDepth 100000
set_option maxHeartbeats 8000000
set_option linter.defProp false
open Option renaming none->aA,some->bA
open Bool renaming false->cA,true->dA
open ByteArray renaming empty->kA
open List renaming length->yA
namespace Go.Proofs.YtflbidbilgndeaaGreatDoor
open Go renaming World->eA,Value->iA,TypeId->jA
open Obj renaming cells->vA
open Ending renaming returned->uA
open Value renaming agg->tA,string->oA,slice->pA,bool->qA
open Go.RowKit Tryz
def AV(a:List xD):List jB:=a.flatMap λr=>[pB 1 r.K,aN r.T,aG r.X,pB 8 r.U]
def lh(a:List xD)(k:Nat)(h:k<yA a):AV (a.take (k+1))=AV (a.take k)++[pB 1 a[k].K,aN a[k].T,aG a[k].X,pB 8 a[k].U]:=by
 unfold AV;rw[Pa h,He];rfl
def PF:∀(a:List xD),xF (AV a)=wH a
 |[]=>rfl
 |r::q=>by
  have e:AV (r::q)=[pB 1 r.K,aN r.T,aG r.X,pB 8 r.U]++AV q:=rfl;rw[e,lG,PF q,wH];simp[xF,UI,Wa]
theorem LO(d:Int)(a:Option Addr)(t:Nat)(c:List xD)(w:World)(hf:tI w a c)(hB:xk c)(hlen:c.length<=2000000):
 Calls prog 201 #[.agg #[.int .i64 d,.slice a c.length t]] w λe f=>e=.returned (.string (lJ d c))/\Below w.1.size w f:=by
 have z:(d<1\/¬d<1/\d > 1000000000000000\/(¬d<1/\¬d > 1000000000000000)/\(c.length:Int)<1\/(¬d<1/\¬d > 1000000000000000)/\¬(c.length:Int)<1/\(c.length:Int) > 500)\/(¬d<1/\¬d > 1000000000000000)/\¬(c.length:Int)<1/\¬(c.length:Int) > 500:=by omega
 obtain z|⟨⟨Z,c2⟩,c3,c4⟩:=z
 .have E:=bB (NW (lsn:=d) (rs:=c) λh=>by obtain⟨h1,h2,h3,h4,-⟩:=h;omega);rw[E.o];clear hf hB;obtain Z|⟨Z,c2⟩|⟨⟨Z,c2⟩,c3⟩|⟨⟨Z,c2⟩,c3,c4⟩:=z
  all_goals
   go_enter func201,ntmps201;go_wp2;go_ret;exact⟨rfl,zB⟩
 have HF:cB (tI w a c):=hf;have HB:cB (xk c):=hB;have O:cB _:=λW=>mI d W;have N:cB _:=λW=>LR (c.length:Nat) W;have hz8:=gB 8 d;have hz2:=gB 2 (c.length:Nat);have HKB:cB (dW d c->lJ d c=pB 8 d++pB 2 (c.length:Nat)++wH c):=λh=>FW h;have HOK:cB (oc c->dW d c):=λh=>⟨by omega,by omega,by omega,by omega,h⟩
 generalize pB 8 d=N8 at *;generalize pB 2 (c.length:Nat)=N2 at *;clear hf hB;go_enter func201,ntmps201;go_upto_region 3 with fail;have X6:cB (nB (w.alloc (.cells #[.int .i64 d,.slice a c.length t] 127)) w.1.size #[.int .i64 d,.slice a c.length t] 127):=nB.new _ _ _;have B0:cB (Below w.1.size w (w.alloc (.cells #[.int .i64 d,.slice a c.length t] 127))):=zB;generalize w.alloc (.cells #[.int .i64 d,.slice a c.length t] 127)=J at *;have D:cB (∀f,Below J.1.size J f->f.cell? ⟨w.1.size,0,none⟩=some (.int .i64 d)/\f.cell? ⟨w.1.size,1,none⟩=some (.slice a c.length t)):=λf h=>by
  have q:=X6.o.z h;exact⟨q.cell 0,q.cell 1⟩
 obtain⟨x0,x1⟩:=D.o J iD;go_cut [3] (λs wx=>∃g,s=.slice (some ⟨g,0,none⟩) 2 2/\J.1.size<=g/\wx.heap[g]?=some (.cells #[.string N8,.string N2] 9 (0,0))/\Below J.1.size J wx)
 case first=>
  go_region_held3 (λf=>f.cell? ⟨w.1.size,0,none⟩=some (.int .i64 d)/\f.cell? ⟨w.1.size,1,none⟩=some (.slice a c.length t))
   (first|go_keep|exact D.o _ k4|exact D.o _ k3)
   (first
    |(go_at_call 165;refine(O.o _).mono ?_;rintro e w3 ⟨rfl,U⟩;have k3:Below J.1.size J w3:=(by exact vB iD.drew U))
    |(go_at_call 156;refine(N.o _).mono ?_;rintro e w4 ⟨rfl,V⟩;have k4:Below J.1.size J w4:=(by exact vB k3 V)))
  all_goals(go_wp2_with fail;go_meet)
  all_goals exact⟨_,rfl,k4.size,heap_alloc_new _ _,vB k4 zB⟩
 obtain⟨g0,rfl,hg0,C,Y⟩:=hcut;rename World=>w5;have B5:cB _:=vB B0.o Y;have HBL:cB (w5.heap[g0]?=some (.cells #[.string N8,.string N2] 9 (0,0))/\w.1.size<=g0):=⟨C,Ua B0.o.size hg0⟩
 have HK5:cB _:=λf h=>D.o f (vB Y h);obtain⟨y0,y1⟩:=HK5.o w5 iD;clear x0 x1 D X6 C hg0 Y B0 O N HK5;go_wp2;go_loopw [3,5,37] (λout _ i wr=>∃(k:Nat)(l:List ByteArray)(g cv:Nat),k<=c.length/\i=.int .i64 k/\out=.slice (some ⟨g,0,none⟩) l.length cv/\l.length<=2+4*k/\fG l<=10+k*3000000000/\cB (l=N8::N2::AV (c.take k))/\cB (∀j(h:j<c.length),j<k->fP c[j])/\cB (wr.ownsRow w.1.size 9 1 (.slice (some ⟨g,0,none⟩) l.length cv) l.length (l.map Value.string))/\Below w.1.size w wr) (λ_ _ i _=>c.length-(intOf i).toNat)
 case atStart=>
  exact⟨0,[N8,N2],_,_,Oa _,rfl,rfl,by simp,by simp[fG];omega,rfl,λj _ h=>absurd h (by omega),⟨rfl,La ⟨g0,2,_,rfl,HBL.o.2,HBL.o.1,Ia _,by simp[maxLen],rfl,rfl⟩⟩,B5.o⟩
 case round=>
  obtain⟨k,l,g,cv,hk,rfl,rfl,hpl,hps,HPS,x,n,p⟩:=hrel;by_cases M:k<c.length
  .obtain ⟨b,o,rfl,hb,c0,Z,c2,c3⟩:=(HF.o.z p).at M;obtain⟨hn1,hn2⟩:=HB.o k M;have y:cB (∀W,Calls prog 245 #[.agg #[.int .i64 c[k].K,.string c[k].T,.string c[k].X,.int .i64 c[k].U]] W λe f=>e=.returned (.bool (el c[k]))/\Below W.1.size W f):=λW=>aAr c[k] W hn1 hn2;by_cases A:fP c[k]
   .rw[XY A]at y;have HK1:cB (∀W,Calls prog 26 #[.int .i64 c[k].K] W λe f=>e=.returned (.string (pB 1 c[k].K))/\Below W.1.size W f):=λW=>pH _ W;have HS8:cB _:=λW=>sT c[k].T W hn1;have HS16:cB _:=λW=>vL c[k].X W hn2;have HN8:cB (∀W,Calls prog 165 #[.int .i64 c[k].U] W λe f=>e=.returned (.string (pB 8 c[k].U))/\Below W.1.size W f):=λW=>mI _ W;have hq1:=gB 1 c[k].K;have hq2:=rF c[k].T;have hq3:=iF c[k].X;have hq4:=gB 8 c[k].U;have HA2:cB (∀j(h:j<c.length),j<k+1->fP c[j]):=λj h hj=>by
     rcases Gc j k with h1|h1
     .exact x.o j h h1
     .obtain rfl:j=k:=by omega
      exact A
    have HT:=lh c k M;have E2:cB (l++[pB 1 c[k].K,aN c[k].T,aG c[k].X,pB 8 c[k].U]=N8::N2::AV (c.take (k+1))):=by show _=_;rw[HT,HPS.o];rfl
    clear HT A x;generalize pB 1 c[k].K=F at *;generalize aN c[k].T=G at *;generalize aG c[k].X=H at *;generalize pB 8 c[k].U=I at *;generalize c[k].K=ki at *;generalize c[k].T=te at *;generalize c[k].X=tx at *;generalize c[k].U=nu at *;have S:=bB (nB.new wr #[.int .i64 ki,.string te,.string tx,.int .i64 nu] 137);have hgB:=(bH n.o).2.1;have HBW:=bB (wF wr (.cells #[.int .i64 ki,.string te,.string tx,.int .i64 nu] 137));go_wp2_with fail;refine(y.o _).mono ?_;rintro e W ⟨rfl,u⟩;have D:=bB (λf(h:Below W.1.size W f)=>(S.o.z u).z h);have X:=vB HBW.o u;have T:=bB (show W.ownsRow w.1.size 9 1 (.slice (some ⟨g,0,none⟩) l.length cv) l.length (l.map Value.string)/\Below w.1.size w W from⟨hC n.o X,vB p X⟩);have hBX:=aB (S.o.z u);have hww:=T.o.2.size;clear n S hb c0 Z c2 c3 p u y X HBW;go_wp2_with fail;generalize wr.1.size=K at *;clear wr;have r:cB (∀f,Below W.1.size W f->f.cell? ⟨K,0,none⟩=some (.int .i64 ki)/\f.cell? ⟨K,1,none⟩=some (.string te)/\f.cell? ⟨K,2,none⟩=some (.string tx)/\f.cell? ⟨K,3,none⟩=some (.int .i64 nu)):=λf h=>⟨(D.o f h).cell 0,(D.o f h).cell 1,(D.o f h).cell 2,(D.o f h).cell 3⟩
    obtain⟨x0,x1,x2,x3⟩:=r.o W iD;go_region_held3 (λf=>f.cell? ⟨K,0,none⟩=some (.int .i64 ki)/\f.cell? ⟨K,1,none⟩=some (.string te)/\f.cell? ⟨K,2,none⟩=some (.string tx)/\f.cell? ⟨K,3,none⟩=some (.int .i64 nu))
     (first|go_keep|exact R|exact r.o _ (m.alloc m.size _)|exact r.o _ m|exact r.o _ hc3|exact r.o _ hc2|exact r.o _ hc1)
     ((first
       |(go_at_call 26;refine(HK1.o _).mono ?_;rintro e w1 ⟨rfl,hb1⟩;have hc1:Below W.1.size W w1:=(Below.refl _ W).drew.trans hb1)
       |(go_at_call 218;refine(HS8.o _).mono ?_;rintro e w2 ⟨rfl,L⟩;have hc2:=vB hc1 L)
       |(go_at_call 168;refine(HS16.o _).mono ?_;rintro e w3 ⟨rfl,U⟩;have hc3:=vB hc2 U)
       |(go_at_call 165;refine(HN8.o _).mono ?_;rintro e w4 ⟨rfl,V⟩;have m:=vB hc3 V)
       |(refine bT (by rfl) _ _ (by rfl) underlying30 xK rfl (by omega) (by omega) (B:=w.1.size) (by rfl) (by exact hC (hC T.o.1 m) zB) [.string F,.string G,.string H,.string I] (by rfl) rfl (by exact La ⟨_,rfl,World.news_of_block (cs:=#[.string F,.string G,.string H,.string I]) (heap_alloc_new _ _)⟩) (by simp[Value.oneCell']) (by omega) (by have:=m.size;simp;omega) ?_;intro g5 P w5 v hB5 hk5 _;have R:=(VN (hk5 K (by have:=m.size;simp;omega) (by omega)) (r.o _ (m.alloc m.size (.cells #[.string F,.string G,.string H,.string I] 9)))))))
    have hle:(l++[F,G,H,I]).length=l.length+4:=by simp
    have hsm:fG (l++[F,G,H,I])=fG l+(F.size+(G.size+(H.size+I.size))):=by rw[rH];simp[fG]
    rw[<-hle]at v |-
    have HO5:=bB (show w5.ownsRow w.1.size 9 1 (.slice (some ⟨g5,0,none⟩) (l++[F,G,H,I]).length P) (l++[F,G,H,I]).length ((l++[F,G,H,I]).map Value.string)/\Below w.1.size w w5 from⟨by rw[Ld];exact v,((vB T.o.2 m).alloc (Ua hww m.size) _).trans hB5⟩);clear v hB5 hk5 R;generalize l++[F,G,H,I]=ps5 at *;go_wp2;exact⟨⟨k+1,ps5,g5,P,by omega,by go_num,rfl,by omega,by omega,E2.o,HA2.o,HO5.o.1,HO5.o.2⟩,by simp[intOf];omega⟩
   .have E:cB _:=uv M A d;rw[DC A]at y;generalize c[k].K=ki at *;generalize c[k].T=te at *;generalize c[k].X=tx at *;generalize c[k].U=nu at *;clear A x n;go_wp2_with fail;refine(y.o _).mono ?_;rintro e W ⟨rfl,u⟩;have BW:cB _:=vB (vB p zB) u;clear u y;go_wp2;go_ret;exact⟨by rw[E.o];rfl,BW.o⟩
  .have Q:oc c:=λj h=>x.o j h (by omega);have E2:cB (xF l=lJ d c):=by
    show _=_;rw[HPS.o,Ra (by omega),xF,xF,PF,HKB.o (HOK.o Q),Wa]
   obtain⟨hcv,hg,z⟩:=bH n.o;have HJ:cB (Calls prog 160 #[.slice (some ⟨g,0,none⟩) l.length cv] wr λe f=>e=.returned (.string (xF l))/\Below wr.1.size wr f):=uI g l.length cv l wr rfl z hg hcv (by omega) (by omega);rw[E2.o]at HJ;clear n z Q;go_wp2_with fail;refine HJ.o.mono ?_;rintro e w2 ⟨rfl,L⟩;have B2:cB _:=vB p L;clear L;go_wp2;go_ret;exact⟨rfl,B2.o⟩
structure NP(w W:World)(c:iC)(cs:Array Value):Prop where
 C:nB W w.1.size #[zA c.w,zA c.tl,zA c.ml,zA c.sh,zA c.ha,zA c.sg] 24
 N:nB W (w.1.size+1) cs 42
 R:nB W (w.1.size+1+1) (sC aA 0 aA 0 uP) 42
 B:uB w W
section
variable {w W W':eA} {c:iC} {cs cs':Array iA}
theorem NP.new:NP w (((w.alloc (vA #[zA c.w,zA c.tl,zA c.ml,zA c.sh,zA c.ha,zA c.sg] 24)).alloc (vA cs 42)).alloc (vA (sC aA 0 aA 0 uP) 42)) c cs:=
 ⟨((nB.new _ _ _).alloc _).alloc _,by have:=(nB.new (w.alloc (vA #[zA c.w,zA c.tl,zA c.ml,zA c.sh,zA c.ha,zA c.sg] 24)) cs 42).alloc (vA (sC aA 0 aA 0 uP) 42);simpa using this,
   by have:=nB.new ((w.alloc (vA #[zA c.w,zA c.tl,zA c.ml,zA c.sh,zA c.ha,zA c.sg] 24)).alloc (vA cs 42)) (sC aA 0 aA 0 uP) 42;simpa using this,vB (vB zB zB) zB⟩
theorem NP.z(h:NP w W c cs)(a:uB W W'):NP w W' c cs:=⟨h.C.z a,h.N.z a,h.R.z a,vB h.B a⟩
theorem NP.put(h:NP w W c cs)(b:nB W' (w.1.size+1) cs' 42)(a:eB (·=w.1.size+1) W W'):NP w W' c cs':=
 ⟨a.blk h.C (by omega),b,a.blk h.R (by omega),h.B.trans (a.below h.B.size λk d e=>by omega)⟩
theorem NP.lt(h:NP w W c cs):w.1.size+1+1<W.1.size:=aB h.R
theorem NP.cells(h:NP w W c cs)(a:cs.size=14):W.cell? (dB w.1.size 0)=bA (zA c.w)/\W.cell? (dB w.1.size 1)=bA (zA c.tl)/\W.cell? (dB w.1.size 2)=bA (zA c.ml)/\W.cell? (dB w.1.size 3)=bA (zA c.sh)/\W.cell? (dB w.1.size 4)=bA (zA c.ha)/\W.cell? (dB w.1.size 5)=bA (zA c.sg)/\nB W (w.1.size+1) cs 42/\qN W (w.1.size+1)/\qN W (w.1.size+1+1)/\w.1.size<W.1.size/\w.1.size+1<W.1.size/\w.1.size+1+1<W.1.size/\¬w.1.size=W.1.size/\¬w.1.size+1=W.1.size/\¬w.1.size+1+1=W.1.size:=
 have:=h.lt
 ⟨h.C.cell 0,h.C.cell 1,h.C.cell 2,h.C.cell 3,h.C.cell 4,h.C.cell 5,h.N,h.N.box a,h.R.box rfl,by omega,by omega,this,by omega,by omega,by omega⟩
end
def fj{a:List xD}(h:gD a<=1400000):xk a:=λi b=>by
 have d:=iV a i b;have e:=vY a (i+1);omega
def aAl:(prog.info? 42).map (·.size)=bA 14:=by kernel_rfl
def TY(M:wC)(x:iA)(w:eA)(e:Ending)(c:eA):Prop:=
 ∃a f b g,e=uA (.tuple #[tA (sC a f b g M),x])/\tB c a M.d.fs/\xC c b M.ts/\uB w c
def ui(V:wC×Int)(w:eA)(e:Ending)(a:eA):Prop:=TY V.1 (zA V.2) w e a
def ub{b:Func}{a:Act}{W:eA}{R i j:Nat}{cs:Array iA}{T:jA}{x:iA}(h:b.results=#[.cell i 42,.tmp j])(c:a.tmps.getD i undef=.pointer (yB R))(d:a.tmps.getD j undef=x)(e:nB W R cs T)(f:C14 cs):(results b a.tmps).run prog W=.ok (.tuple #[tA cs,x]) W:=by
 have:=run_loadVar_row (P:=prog) W R T 42 cs (0,0) _ e underlying42 rfl (by rw[aAl,f.size]);simp at c d;simp[results,h,c,d,asAddr,this]
def lV{l:Func}{t:Act}{w W:eA}{R i j:Nat}{cs:Array iA}{T:jA}{M:wC}{x:iA}{a b:mC}{f g:Nat}(h:l.results=#[.cell i 42,.tmp j])(o:t.tmps.getD i undef=.pointer (yB R))(p:t.tmps.getD j undef=x)(u:t.defers=[])(c:nB W R cs T)(n:∀(j:Nat)(s:jB),cs[j]?≠bA (iA.string s))(z:w.1.size<=R)(m:uB w W)(q:tB W a M.d.fs)(r:xC W b M.ts):bodyPost prog l (λe v=>TY M x w e v) .ret t (W.setRow R (sC a f b g M)):=
 bodyPost_ret (ub h o p c.row (xH _ _ _ _ _)) u ⟨a,f,b,g,rfl,q.store c n (cH _ _ _),r.store c n (cH _ _ _),m.trans ((cH _ _ _).below m.size λk y e=>by omega)⟩
def cz{g:Func}{t:Act}{w W:eA}{i j:Nat}{c:iC}{cs:Array iA}{V:wC×Int}{M:wC}{f:Int}{a b:mC}{ca cb:Nat}(h:g.results=#[.cell i 42,.tmp j])(k:t.tmps.getD i undef=.pointer (yB (w.1.size+1+1)))(l:t.tmps.getD j undef=zA f)(o:t.defers=[])(P:NP w W c cs)(E:V=(M,f))(m:tB W a M.d.fs)(n:xC W b M.ts):bodyPost prog g (λe p=>ui V w e p) .ret t (W.setRow (w.1.size+1+1) (sC a ca b cb M)):=by
 subst E;exact lV h k l o P.R (zG _ _ _ _ _) (by omega) P.B m n
section
open Go.Maps
attribute [local go_sem] jH xH xN nB.drewI qN.drewI qN.new qN.alloc qN.alloc2
def vH(n:Int)(w:eA)(b : -9223372036854775808<=n)(c:n<=9223372036854775807):dF 50 #[zA n] w (oA (pB 1 n)):=by
 have H:=bB (λW=>lD 1 n W (by omega) b c);go_enter func50,ntmps50;go_wp2_with fail;apply lC (H.o _);intro f a;replace a:=bB a;go_wp2;go_ret;exact⟨rfl,a.o⟩
def nN(N:wC)(a:Int)(b:jB):jB:=if a=0 then b else if a=22\/a=23\/a=21\/a=62 then pB 1 2 else if N.up=cA then pB 1 4 else pB 1 3
def aNi{N:wC}{code:Int}{reply:jB}:(code==0)=dA/\nN N code reply=reply\/(code==0)=cA/\(((code==22)=dA\/(code==22)=cA/\((code==23)=dA\/(code==23)=cA/\((code==21)=dA\/(code==21)=cA/\(code==62)=dA)))/\nN N code reply=pB 1 2\/(code==22)=cA/\(code==23)=cA/\(code==21)=cA/\(code==62)=cA/\(N.up=cA/\nN N code reply=pB 1 4\/N.up=dA/\nN N code reply=pB 1 3)):=by
 unfold nN;by_cases a:code=0
 .exact Ca ⟨by simpa using a,Ma a⟩
 refine La ⟨by simpa using a,?_⟩;rw[Ja a];by_cases b:code=22\/code=23\/code=21\/code=62
 .exact Ca ⟨by rcases b with h|h|h|h<;>simp[h],Ma b⟩
 refine La ⟨by simp;omega,by simp;omega,by simp;omega,by simp;omega,?_⟩;rw[Ja b];cases N.up
 .exact Ca ⟨rfl,Ma rfl⟩
 exact La ⟨rfl,Ja (by simp)⟩
def cY(a b:mC)(g i:Nat)(N:wC)(f:Int)(c:jB)(w:eA)(r:tB w a N.d.fs)(s:xC w b N.ts):
 Calls prog 56 #[tA (sC a g b i N),zA f,oA c] w λe j=>TY N (oA (nN N f c)) w e j:=by
 have l:=bB r;have n:=bB s;have d:=aNi (N:=N) (code:=f) (reply:=c);clear r s;generalize nN N f c=V at *;have E:=vN;obtain⟨v,rfl⟩|⟨v,⟨o|⟨o,p|⟨p,q|⟨q,x⟩⟩⟩,rfl⟩|⟨o,p,q,x,⟨t,rfl⟩|⟨t,rfl⟩⟩⟩:=d
 all_goals
  have A:=yG a g b i N 42;have y:=qF a g b i N;(try rw[t]at A y);have X:=bB ((nB.new w (sC a g b i N) 42).alloc (vA (sC aA 0 aA 0 uP) 42));have R:=nB.new (w.alloc (vA (sC a g b i N) 42)) (sC aA 0 aA 0 uP) 42;rw[eA.size_alloc]at R;replace R:=bB R;have B:=bB (vB (wF w (vA (sC a g b i N) 42)) (wF _ (vA (sC aA 0 aA 0 uP) 42)));go_enter func56,ntmps56;go_upto_region 1 with fail;generalize (w.alloc (vA (sC a g b i N) 42)).alloc (vA (sC aA 0 aA 0 uP) 42)=W at *;have F:=X.o;have G:=R.o.box rfl;have m:=bB (λj(h:uB W j)=>X.o.z h);have u:=bB (λj(h:uB W j)=>((cH j (w.1.size+1) (sC a g b i N)).blk (X.o.z h) (by omega):nB _ w.1.size _ _));go_wp2
 all_goals first
  |exact lV rfl rfl rfl rfl R.o (zG _ _ _ _ _) (by omega) B.o (l.o.z B.o) (n.o.z B.o)
  |skip
 all_goals
  go_region_held3 (λj=>nB j w.1.size (sC a g b i N) 42)
   (first|with_reducible exact m.o _ k|with_reducible exact m.o _ iD.drew|exact u.o _ k)
   (first|(go_at_call 50;refine lC (vH _ _ (by omega) (by omega)) ?_;intro C z;have k:uB W C:=(by with_reducible exact vB iD.drew z);have D:=(R.o.z k).box rfl))
  replace B:=bB (vB B.o k);go_wp2;exact lV rfl rfl rfl rfl (R.o.z k) (zG _ _ _ _ _) (by omega) B.o (l.o.z B.o) (n.o.z B.o)
end
def aHk{c:iC}{b a:Int}{d:List fB}(h:nC c b d=dA):aE c.w a (FG ⟨⟨#[]⟩,0,[],[]⟩ dA d)=aE c.w a d:=by
 rw[oV (t:=⟨⟨#[]⟩,0,[],[]⟩) (kf h)]
def aIz:ZA ⟨⟨#[]⟩,0,[],[]⟩:=⟨Oa _,Oa _,λi h=>absurd h (by simp)⟩
def IV(c:iC)(h:Int)(a:mC)(l:Nat)(k:List fB)(i:Int)(w:eA)(C:xC w a k)(m:yA k+cC k<=1900000)(r:nC c h k=dA):
 Calls prog 57 #[rE c,tA #[zA h,pA a (yA k) l],zA i] w λe D=>xU (DN c h k i) w e D:=by
 obtain⟨d,b,f,g⟩:=wR m;obtain⟨-,B,B,y,-⟩:=gH r;have F:=bB (λW(u:uB w W)=>sJ c h a l k W (C.z u) b (by omega));have q:=bB (λW(u:uB w W)=>zT c h a l k W (C.z u) r m);have G:cB (∀W j,uB w W->0<=j->j<=1000000000000->Calls prog 117 #[rE c,tA #[zA h,pA a (yA k) l],zA j,tA #[oA ⟨#[]⟩,zA 0,pA aA 0 0,pA aA 0 0]] W λe D=>∃M t,e=uA (tA #[zA j,.slice M (yA (aE c.w j k)) t])/\cD D W.1.size M (aE c.w j k)/\uB W D):=λW j u B I=>by
  have:=EJ c h j a l k ⟨⟨#[]⟩,0,[],[]⟩ aA aA 0 0 W (C.z u) (Ca rfl) (Ca rfl) (by omega) (λx I=>I.elim (λe=>e ▸ aIz) (NZ r m x)) B (by omega);rw[show(⟨⟨#[]⟩,0,[],[]⟩:fB).N.toList.isEmpty=dA from by kernel_rfl,aHk r]at this;exact this
 have I:(i<1\/¬i<1/\1000000000000-h<i)/\DN c h k i=(h,k,cA)\/¬i<1/\¬1000000000000-h<i/\DN c h k i=(h+i,aE c.w (h+i) k,dA):=by
  unfold DN;rw[Ja (by rw[r];simp)];by_cases A:i<1<;>by_cases H:1000000000000-h<i<;>simp[A,H]
 rw[r]at F;clear C m d b f g r y;unfold xU;unfold rE at *;have P:=bB (CJ.new (w:=w) (c:=c) (now:=h) (a:=a) (n:=yA k) (cap:=l));generalize DN c h k i=V at *;obtain⟨A|⟨A,H⟩,E⟩|⟨A,H,E⟩:=I
 all_goals
  have E:=bB E;go_enter func57,ntmps57;go_wp2_with(first
   |(go_at_call 49;apply lC (F.o _ P.o.B);intro B o;replace P:=bB (P.o.z o);clear o F;obtain⟨O,Q,R,S,T,U,X,Y,-,-,-,-,N⟩:=P.o.cells)
   |(go_at_call 107;refine(q.o _ P.o.B).mono ?_;rintro e I ⟨K,L,rfl,z,o⟩;have s:=bB (P.o.z o);have p:=bB z;clear z o O Q R S T U X Y q;obtain⟨-,-,-,-,-,-,-,-,Z,B,W,g1,J⟩:=s.o.cells)
   |(go_at_call 117;refine(G.o _ (h+i) P.o.B (by omega) (by omega)).mono ?_;rintro e I ⟨K,L,rfl,z,o⟩;have s:=bB (P.o.z o);have p:=bB z;clear z o O Q R S T U X Y q;obtain⟨-,-,-,-,-,-,-,-,Z,B,W,g1,J⟩:=s.o.cells))
  refine bodyPost_ret (v:=?_) (by simp[results,results57,go_sem,Z,B];rfl) rfl ?_;rw[E.o];first
   |exact⟨K,⟨L,rfl⟩,s.o.done p.o N⟩
   |exact⟨K,L,rfl,s.o.done p.o N⟩
def aFf:(prog.info? 119).map (λi=>(i.zero,i.size,i.bytes))=bA (bA (tA #[zA 0,oA ⟨#[]⟩,oA ⟨#[]⟩,oA ⟨#[]⟩,zA 0]),5,64):=by kernel_rfl
def JI(w:eA)(B:Nat)(v:iA)(n:Nat)(l:List zN):Prop:=w.ownsRow B 119 5 v n (lO l)
def JI.z{w a:eA}{B n:Nat}{v:iA}{l:List zN}(h:JI w B v n l)(b:uB w a):JI a B v n l:=hC h b
def JI.new(w:eA):JI (w.alloc (vA #[] 119)) w.1.size (pA (yB w.1.size) 0 0) 0 []:=eA.ownsRow_made w #[] 0 (Ia _) (by simp[maxLen]) (by simp)
def pw(l:List zN)(o:zN):lO (l++[o])=lO l++[zA o.K,oA o.N,oA o.tq,oA o.data,zA o.size]:=by simp[lO]
def KP{A:Array Oper}{c:List Oper}{o:Oper}{a:Act}{Q:Exit->Act->eA->Prop}{w:eA}(u:o.guard=aA)(s x:Operand)
(H:o.op=.call { callee:=.builtin .append,args:=#[s,x],argTypes:=#[209,209] })
(B n:Nat)(v:iA)(l:List zN)(k z:Int)(m p f:jB)(I:a.eval s=v)(y:cB (JI w B v n l))(J:a.eval x=pA (yB w.1.size) 1 1)(K:n<=2000000)(F:B<=w.1.size)
(h:∀g b r,cB (JI r B (pA (yB g) (n+1) b) (n+1) (l++[⟨k,m,p,f,z⟩]))->Below B w r->wpList prog A Q c (a.put o.dst (pA (yB g) (n+1) b)) r):
 wpList prog A Q (o::c) a (w.alloc (vA #[zA k,oA m,oA p,oA f,zA z] 119)):=by
 obtain⟨i,G,C,D,E⟩:=info_parts aFf;refine wpList_append_lies _ u s x _ H B 119 i _ 5 64 underlying209 G C D E rfl (by omega) v n (lO l) I (eA.ownsRow.alloc y.o _) (dB w.1.size 0) 1 1 [zA k,oA m,oA p,oA f,zA z] J rfl (by
  have:=eA.news_of_block (cs:=#[zA k,oA m,oA p,oA f,zA z]) (t:=119) (fr:=(0,0)) (heap_alloc_new w (vA #[zA k,oA m,oA p,oA f,zA z] 119));simpa using this) (by simp[iA.oneCell']) (by omega) (by simp[maxLen];omega) (by omega) (by simp;omega) (w.1.size+1) (by simp) ?_
 intro g b r j d _ _;refine h g b r ?_ ?_;show eA.ownsRow _ _ _ _ _ _ _;rw[pw];exact j;exact (zB.mono F).trans ((eB.grown d).below (by simp;omega) (λq L e=>by have:=(y.o.lt q e).1;omega))
def NJ(r:gG)(g:mC)(d:Nat)(c:iC)(a:mC)(e:Nat)(b:mC)(f:Nat)(N:wC)(l:Nat):Array iA:=#[zA r.K,oA r.T,oA r.R,zA r.U,pA g (yA r.P) d,zA c.w,zA c.tl,zA c.ml,zA c.sh,zA c.ha,zA c.sg,pA a (yA N.d.fs) e,zA N.d.c,zA N.d.k,zA N.d.cr,zA N.d.fl,qA N.d.dn,zA N.l.first,zA N.l.last,zA N.l.size,zA N.now,pA b (yA N.ts) f,zA N.lsn,qA N.deg,qA N.up,.pointer (yB l)]
def aPl{r:gG}{g:mC}{d:Nat}{c:iC}{a:mC}{e:Nat}{b:mC}{f:Nat}{N:wC}{l:Nat}{T:jA}:∀W D,nB W D (NJ r g d c a e b f N l) T->W.cell? (dB D 0)=bA (zA r.K)/\W.cell? (dB D 1)=bA (oA r.T)/\W.cell? (dB D 2)=bA (oA r.R)/\W.cell? (dB D 3)=bA (zA r.U)/\W.cell? (dB D 4)=bA (pA g (yA r.P) d)/\W.cell? (dB D 5)=bA (zA c.w)/\W.cell? (dB D 6)=bA (zA c.tl)/\W.cell? (dB D 7)=bA (zA c.ml)/\W.cell? (dB D 8)=bA (zA c.sh)/\W.cell? (dB D 9)=bA (zA c.ha)/\W.cell? (dB D 10)=bA (zA c.sg)/\W.cell? (dB D 11)=bA (pA a (yA N.d.fs) e)/\W.cell? (dB D 12)=bA (zA N.d.c)/\W.cell? (dB D 13)=bA (zA N.d.k)/\W.cell? (dB D 14)=bA (zA N.d.cr)/\W.cell? (dB D 15)=bA (zA N.d.fl)/\W.cell? (dB D 16)=bA (qA N.d.dn)/\W.cell? (dB D 17)=bA (zA N.l.first)/\W.cell? (dB D 18)=bA (zA N.l.last)/\W.cell? (dB D 19)=bA (zA N.l.size)/\W.cell? (dB D 20)=bA (zA N.now)/\W.cell? (dB D 21)=bA (pA b (yA N.ts) f)/\W.cell? (dB D 22)=bA (zA N.lsn)/\W.cell? (dB D 23)=bA (qA N.deg)/\W.cell? (dB D 24)=bA (qA N.up)/\W.cell? (dB D 25)=bA (.pointer (yB l)):=
 λ_ _ h=>⟨h.cell 0,h.cell 1,h.cell 2,h.cell 3,h.cell 4,h.cell 5,h.cell 6,h.cell 7,h.cell 8,h.cell 9,h.cell 10,h.cell 11,h.cell 12,h.cell 13,h.cell 14,h.cell 15,h.cell 16,h.cell 17,h.cell 18,h.cell 19,h.cell 20,h.cell 21,h.cell 22,h.cell 23,h.cell 24,h.cell 25⟩
def oI{W:eA}{D:Nat}{T:jA}{r:gG}{g:mC}{d:Nat}{c:iC}{a:mC}{e:Nat}{b:mC}{f:Nat}{N:wC}{l:Nat}(h:nB W D (NJ r g d c a e b f N l) T):(W.cell? (dB D 0)=bA (zA r.K)/\W.cell? (dB D 1)=bA (oA r.T)/\W.cell? (dB D 2)=bA (oA r.R)/\W.cell? (dB D 3)=bA (zA r.U)/\W.cell? (dB D 4)=bA (pA g (yA r.P) d)/\W.cell? (dB D 5)=bA (zA c.w)/\W.cell? (dB D 6)=bA (zA c.tl)/\W.cell? (dB D 7)=bA (zA c.ml)/\W.cell? (dB D 8)=bA (zA c.sh)/\W.cell? (dB D 9)=bA (zA c.ha)/\W.cell? (dB D 10)=bA (zA c.sg)/\W.cell? (dB D 11)=bA (pA a (yA N.d.fs) e)/\W.cell? (dB D 12)=bA (zA N.d.c)/\W.cell? (dB D 13)=bA (zA N.d.k)/\W.cell? (dB D 14)=bA (zA N.d.cr)/\W.cell? (dB D 15)=bA (zA N.d.fl)/\W.cell? (dB D 16)=bA (qA N.d.dn)/\W.cell? (dB D 17)=bA (zA N.l.first)/\W.cell? (dB D 18)=bA (zA N.l.last)/\W.cell? (dB D 19)=bA (zA N.l.size)/\W.cell? (dB D 20)=bA (zA N.now)/\W.cell? (dB D 21)=bA (pA b (yA N.ts) f)/\W.cell? (dB D 22)=bA (zA N.lsn)/\W.cell? (dB D 23)=bA (qA N.deg)/\W.cell? (dB D 24)=bA (qA N.up)/\W.cell? (dB D 25)=bA (.pointer (yB l)))/\D<W.1.size/\¬D=W.1.size:=
 have:=aB h
 ⟨aPl _ _ h,this,by omega⟩
def aIk{C:eA->Prop}{w:eA}{D:Nat}{x y z A B E F G H I e J K L M N O P Q R S r s u v f g i j l m n T o q a b c d p:iA}{t:jA}(h:nB w D #[x,y,z,A,B,E,F,G,H,I,e,J,K,L,M,N,O,P,Q,R,S,r,s,u,v,p] t)(k:∀W,nB W D #[x,y,z,A,B,E,F,G,H,I,e,f,g,i,j,l,m,n,T,o,q,a,b,c,d,p] t->eB (·=D) w W->C W):C ((((((((((((((w.setCell (dB D 11) f).setCell (dB D 12) g).setCell (dB D 13) i).setCell (dB D 14) j).setCell (dB D 15) l).setCell (dB D 16) m).setCell (dB D 17) n).setCell (dB D 18) T).setCell (dB D 19) o).setCell (dB D 20) q).setCell (dB D 21) a).setCell (dB D 22) b).setCell (dB D 23) c).setCell (dB D 24) d):=
 k _ (by have:=((((((((((((((h.set 11 f).set 12 g).set 13 i).set 14 j).set 15 l).set 16 m).set 17 n).set 18 T).set 19 o).set 20 q).set 21 a).set 22 b).set 23 c).set 24 d);simpa using this) (((((((((((((((eB.refl (·=D) w).setCell (Ca rfl) 11 f).setCell (Ca rfl) 12 g).setCell (Ca rfl) 13 i).setCell (Ca rfl) 14 j).setCell (Ca rfl) 15 l).setCell (Ca rfl) 16 m).setCell (Ca rfl) 17 n).setCell (Ca rfl) 18 T).setCell (Ca rfl) 19 o).setCell (Ca rfl) 20 q).setCell (Ca rfl) 21 a).setCell (Ca rfl) 22 b).setCell (Ca rfl) 23 c).setCell (Ca rfl) 24 d)
def mU(M:wC)(x:Int):Int:=if x=0 then 0 else if x=22\/x=23\/x=21\/x=62 then 2 else if M.up=cA then 4 else 3
def aOi(M:wC)(x:Int):(x==0)=dA/\mU M x=0\/(x==0)=cA/\(((x==22)=dA\/(x==22)=cA/\((x==23)=dA\/(x==23)=cA/\((x==21)=dA\/(x==21)=cA/\(x==62)=dA)))/\mU M x=2\/(x==22)=cA/\(x==23)=cA/\(x==21)=cA/\(x==62)=cA/\(M.up=cA/\mU M x=4\/M.up=dA/\mU M x=3)):=by
 unfold mU;cases M.up<;>grind
section
open Go.Maps
def yv(l m:Nat)(a met:jB)(c:iC)(g:Int)(B:Nat->Prop)(k:List fB)(M:Nat)(w:eA)(h:jE w B l m c g k M)(W:a.size<=maxLen)(H:met.size<=maxLen)(G : -1<=(aC k a).L):
 dF 164 #[.pointer (yB l),oA a,oA met] w (.tuple #[zA (qE c (aC k a) met).1,zA (qE c (aC k a) met).2]):=by
 have f:cB (Calls prog 166 #[.pointer (yB l),oA a] w λe n=>ZE c g k l m a w e n):=gw l m a c g B k M w h W;clear h;unfold ZE at f;generalize aC k a=t at *;by_cases s:met.toList.isEmpty=dA
 .have o:cB (qE c t met=(((yA t.Z:Nat):Int),if t.L = -1 then c.tl else t.L)):=by
   show _=_;unfold qE;rw[Ma s];by_cases p:t.L = -1
   .rw[Ma p,Ma (by omega)]
   rw[Ja p,Ja (by omega)]
  go_enter func164,ntmps164;go_wp2_with fail;refine f.o.mono ?_;rintro e i ⟨x,b,S,A,rfl,d,r,q⟩;have v:cB (rL 230 #[.pointer (yB l),.pointer (yB x)] i (zA (if t.L = -1 then c.tl else t.L))):=LZ l m x c g t S A i r d;obtain⟨P,C,j,N,Q,L,D,d⟩:=d;have c2:tC i x 2 (.map (bA C)):=d.blk.cell 2;have O:=d.Z.len underlying223 3;rw[bN]at O;have J:yA Q=yA t.Z:=by rw[<-d.q1,Xa]
  rw[J]at O;have u:=bB q;clear d r J q f;generalize (if t.L = -1 then c.tl else t.L)=X at *;generalize yA t.Z=h at *;go_wp2_with fail;apply dR v.o;go_wp2;go_ret2;exact⟨fL (by rw[o.o]) (by rw[o.o]),u.o⟩
 .have V:met.toList.isEmpty=cA:=by simpa using s
  have o:cB (qE c t met=(((bJ cE t.Z met:Nat):Int),xG t.M met c.ml)):=by show _=_;unfold qE;rw[Ja s]
  go_enter func164,ntmps164;clear s;go_wp2_with fail;refine f.o.mono ?_;rintro e i ⟨x,b,S,A,rfl,d,r,q⟩;have z:cB (∀y:kC i,rL 231 #[.pointer (yB l),.pointer (yB x),oA met] y.w' (zA (xG t.M met c.ml))):=λy=>dV l m x c g t S A met y.w' (r.z y.h) (d.z y.h) H;have E:cB (∀y:kC i,∃j,y.w'.cell? (dB x 3)=bA (.map (bA j))/\(Instr.lookup 222 (.map (bA j)) (oA met) cA).run prog y.w'=.ok (zA (bJ cE t.Z met)) y.w'):=λy=>by
   obtain⟨P,C,j,N,Q,L,D,d⟩:=d.z y.h;exact⟨j,d.blk.cell 3,RR d.cnts (d.cnt met) H⟩
  obtain⟨P,C,j,N,Q,L,D,d⟩:=d;have F:tC i x 3 (.map (bA j)):=d.blk.cell 3;have T:=kC.cells F;have K:∀y:kC i,(Instr.lookup 222 (.map (bA j)) (oA met) cA).run prog y.w'=.ok (zA (bJ cE t.Z met)) y.w':=λy=>by
   obtain⟨R,p,U⟩:=E.o y;rw[T y]at p;cases p
   exact U
  have u:=bB q;have I:=kC.there i;clear d r q f E F;generalize bJ cE t.Z met=Y at *;generalize xG t.M met c.ml=Z at *;go_wp2_with fail;refine wB (by kernel_rfl) (by kernel_rfl) ?_;repeat (go_big_quiet_step (first|(go_at_call 231;exact uC (z.o _))|fail))
  refine wpQuiet_nil ?_;rintro _ ⟨y,rfl⟩;go_wp2;go_ret2;exact⟨fL (by rw[o.o]) (by rw[o.o]),vB u.o y.h⟩
end
section
open Go.Maps
attribute [local go_sem] jH xH nB.drewI
def SQ{D l:Nat}{r:gG}{n a b a' b':mC}{G v y ca' cb':Nat}{c:iC}{N M:wC}{x:Int}{w:eA}(h:nB w D (NJ r n G c a v b y N l) 87):
 Calls prog 161 #[.pointer (yB D),tA (sC a' ca' b' cb' M),zA x] w λe o=>e=uA (zA (mU M x))/\nB o D (NJ r n G c a' ca' b' cb' M l) 87/\eB (·=D) w o:=by
 have q:=bB (aOi M x);have A:=yG a' ca' b' cb' M 42;have B:=bB (eB.of (S:=(·=D)) (wF w (vA (sC a' ca' b' cb' M) 42)));have H:=bB (h.alloc (vA (sC a' ca' b' cb' M) 42));have X:=bB (nB.new w (sC a' ca' b' cb' M) 42);have G:=aB h;generalize mU M x=V at *;clear h;go_enter func161,ntmps161;go_upto_region 1 with fail;generalize w.alloc (vA (sC a' ca' b' cb' M) 42)=W at *;have F:=oI H.o;have E:=λj=>H.o.free j;have p:=X.o;go_upto_region 2 with fail;refine aIk (C:=λW=>Code.wp prog _ _ _ W) H.o ?_;intro s k d;have I:nB s w.1.size (sC a' ca' b' cb' M) 42:=d.blk p (by omega);have z:=bB (Vc k (B.o.trans' d));clear F E p k d H X B;obtain⟨t,rfl⟩|⟨t,⟨f|⟨f,g|⟨g,i|⟨i,u⟩⟩⟩,rfl⟩|⟨f,g,i,u,⟨m,rfl⟩|⟨m,rfl⟩⟩⟩:=q.o
 all_goals
  (try rw[m]at A);go_wp2;go_ret;exact⟨rfl,z.o⟩
end
theorem rX:∀(a:List dC)(i:Nat),jD a i=aA ↔ ∀l∈a,yR l=0
 |[],i=>by simp[jD]
 |l::r,i=>by
  rw[jD];by_cases h:yR l=0
  .rw[Ma h,rX r (i+1)];simp[h]
  rw[Ja h];simp[h]
theorem QN:∀(r a:List dC)(i:Nat),rV (a++r)->pF a r i=aA
 |[],_,_,_=>by simp[pF]
 |l::r,a,i,h=>by
  rw[pF];have c:¬a.any (λx=>iS x l)=dA:=by
   intro b;rw[Zd]at b;obtain⟨x,d,e⟩:=b;unfold rV at h;rw[Ae]at h;exact h.2.2 x d l (by simp) ((YG _ _).1 e)
  rw[Ja c];exact QN r _ _ (by simpa using h)
def OX{a:List dC}(b:yA a<=16)(c:∀l∈a,yR l=0)(d:rV a)(e:pS a=dA):xB a=(iG [] a,0,0):=by grind [OZ,rX,QN]
def yh{a:List dC}(h:(xB a).2.1=0):yA a<=16/\(∀l∈a,yR l=0)/\rV a/\pS a=dA:=by grind [xB,yR,rV,pS,jD,pF,DW,BM,xZ,nZ,JS,rX,vp]
def aBm{b a:List dC}(c:a.Perm b)(h:rV b):rV a:=by
 unfold rV at *;exact(c.pairwise_iff (fun{x y} e=>Ne.symm e)).2 h
def oj{a:List dC}(h:(xB a).2.1=0):xB (xB a).1=((xB a).1,0,0):=by
 obtain⟨m,g,i,j⟩:=yh h;rw[OX m g i j];simp only;have d:(iG [] a).Perm (zL a):=(yL a []).trans (by rw[Mb]);have k:∀l∈iG [] a,l∈a/\wT l=cA:=λl c=>by
  have:=De.1 (d.mem_iff.1 c);exact⟨this.1,by simpa using this.2⟩
 have b:rV (iG [] a):=aBm d (i.sublist Pf);have n:zL (iG [] a)=iG [] a:=by
  unfold zL;rw[Jc];intro l c;rw[(k l c).2];rfl
 have f:pS (iG [] a)=dA:=by
  unfold pS at *;rw[Zd]at *;obtain⟨x,o,e⟩:=j;refine⟨x,d.mem_iff.2 (De.2 ⟨o,?_⟩),e⟩;simp only[Sa]at e;exact e.1
 rw[OX (by rw[d.length_eq];have:=BT a;omega) (λl c=>g l (k l c).1) b f];congr 1;exact(YM b (by rw[n]) (vV a [] Gd)).symm
def gy{a:List dC}(h:(xB a).2.1=0):tO (xB a).1=dA:=by
 unfold tO;rw[oj h];simp[iY]
def gz{a:List dC}(h:(xB a).2.1=0):fJ (xB a).1=uH (xB a).1/\pG (uH (xB a).1)=((xB a).1,dA):=⟨by unfold fJ;rw[Ma (gy h)],gc (gy h)⟩
def bc{w:eA}{g f h i j k:Nat}{l m n o p:iA}:w.cell? (dB g f)=bA l/\w.cell? (dB g h)=bA m/\w.cell? (dB g i)=bA n/\w.cell? (dB g j)=bA o/\w.cell? (dB g k)=bA p->(∀x:kC w,x.w'.cell? (dB g f)=bA l)/\(∀x:kC w,x.w'.cell? (dB g h)=bA m)/\(∀x:kC w,x.w'.cell? (dB g i)=bA n)/\(∀x:kC w,x.w'.cell? (dB g j)=bA o)/\∀x:kC w,x.w'.cell? (dB g k)=bA p:=
 fun⟨a,b,c,d,e⟩=>⟨kC.cells a,kC.cells b,kC.cells c,kC.cells d,kC.cells e⟩
def qi(r:gG)(a:mC)(k:Nat)(w:eA)(o:pJ w a r.P)(h:VR r)(C:fS w):
 dF 83 #[tA #[zA r.K,oA r.T,oA r.R,zA r.U,pA a (yA r.P) k]] w (oA (sK r)):=by
 obtain⟨s,Q⟩:=h.bulk;have P:=h.sz;have D:=h.ok.1;obtain⟨i,N⟩:∃i:Nat,r.K=(i:Int):=⟨r.K.toNat,by omega⟩
 have q:=bB (nB.new w #[zA r.K,oA r.T,oA r.R,zA r.U,pA a (yA r.P) k] 47);have m:=bB (wF w (vA #[zA r.K,oA r.T,oA r.R,zA r.U,pA a (yA r.P) k] 47));have z:=bB (λW=>WY D W);have v:=bB (λW=>aJa a k W h.ok);have u:=bB (λW(l:uB w W)=>ZO r a k W (o.z l) h.ok);have B:=bB (λW(l:uB w W)=>ed r a k W (o.z l) (by omega));have J:=bB (λW(l:uB w W)=>pj r a k W (o.z l) (by omega) h.ok);have A:cB (∀W,uB w W->tC W 0 (i*5) (qA (bW i))/\tC W 0 (i*5+1) (qA ((i:Int)==1))/\tC W 0 (i*5+2) (qA (aW i))/\tC W 0 (i*5+3) (qA (qW i))/\tC W 0 (i*5+4) (qA ((i:Int)==1||(i:Int)==2||(i:Int)==3||(i:Int)==4))):=λW l=>have t:=λj O=>(C.z l).2 i j (by omega) O;⟨t 0 (by omega),t 1 (by omega),t 2 (by omega),t 3 (by omega),t 4 (by omega)⟩;clear o C h s;unfold shV at *;generalize sK r=S at *;generalize r.T.size+r.R.size+mQ r.P=T at *;have U:(i:Int)<7:=by omega
 clear D;rw[N]at *;go_enter func83,ntmps83;go_upto_region 1 with fail;generalize w.alloc (vA #[zA i,oA r.T,oA r.R,zA r.U,pA a (yA r.P) k] 47)=K at *;have n:=kC.there K;obtain⟨E,F,G,H,I⟩:=bc q.o.c5;obtain⟨b,c,d,f,g⟩:=bc (A.o _ m.o);go_wp2_with fail;refine wB (by kernel_rfl) (by kernel_rfl) ?_;repeat (go_big_quiet_step (first|exact oC (z.o _)|exact oC (v.o _)|exact oC (u.o _ (vB m.o (kC.h _)))|exact oC (B.o _ (vB m.o (kC.h _)))))
 refine wpQuiet_nil ?_;rintro _ ⟨x,rfl⟩;have p:=bB (vB m.o x.h);have M:=bB (q.o.z x.h);clear z v u B E F G H I b c d f g n q m;generalize x.w'=L at *;have n:=kC.there L;obtain⟨E,F,G,H,I⟩:=bc M.o.c5;obtain⟨b,c,d,f,g⟩:=bc (A.o _ p.o);go_wp2_with fail;refine wB (by kernel_rfl) (by kernel_rfl) ?_;repeat (go_big_quiet_step (exact oC (J.o _ (vB p.o (kC.h _)))))
 refine wpQuiet_nil ?_;rintro _ ⟨y,rfl⟩;go_wp2;go_ret;exact⟨rfl,vB p.o y.h⟩
def fq(p q:iA)(w:eA):
 CallsD prog 80 #[p,q] .returning w λe c d=>e=uA (.tuple #[])/\c=.returning/\d=w:=by
 refine callsD_of_wpS func80 rfl λa cs b=>?_;apply wpS_seq;apply wpS_region;simp[wpOpsS,go_sem,recoverD,b,ntmps80,Exit.thenS];refine wpS_cond (t:=cA) (by simp[Act.eval,Array.replicate]) ?_;simp only[Bd,Cf];refine wpS_of_wp (wp_skip ?_);cases a
 simp_all[bodyPostS,results,results80]
structure DB(w W:World)(cs:Array Value)(av:mC)(xs:List sF):Prop where
 R:nB W w.1.size cs 47
 K:nB W (w.1.size+1) #[qA cA] 4
 O:tG W (w.1.size+1+1) av xs
 N:uB w W
section
variable {w W W':eA} {cs:Array iA} {av:mC} {xs:List sF}
theorem DB.z(h:DB w W cs av xs)(a:uB W W'):DB w W' cs av xs:=⟨h.R.z a,h.K.z a,h.O.z a,vB h.N a⟩
theorem DB.set(h:DB w W cs av xs)(i:Nat)(v:iA):DB w (W.setCell (dB w.1.size i) v) (cs.setIfInBounds i v) av xs:=
 have a:qD w.1.size W (W.setCell (dB w.1.size i) v):=(qD.refl _ _).setCell i v
 ⟨h.R.set i v,h.K.but a (by omega),h.O.but a (by omega),h.N.setCell (by simp) _⟩
end
def il(r:gG)(w:eA)(h:VR r)(x:fS w):Calls prog 27 #[oA (sK r)] w λe L=>xn r w e L:=by
 obtain⟨g,d⟩:∃g,((w.alloc (vA #[zA 0,oA kA,oA kA,zA 0,pA aA 0 0] 47)).alloc (vA #[qA cA] 4))=g:=⟨_,rfl⟩
 have j:g.1.size=w.1.size+1+1:=by rw[<-d];simp
 have y:uB w g:=d ▸ vB zB zB;have B:DB w g #[zA 0,oA kA,oA kA,zA 0,pA aA 0 0] aA []:=⟨d ▸ (nB.new _ _ _).alloc _,by have:=nB.new (w.alloc (vA #[zA 0,oA kA,oA kA,zA 0,pA aA 0 0] 47)) #[qA cA] 4;rw[<-d];simpa using this,Ca rfl,y⟩
 have c:=wF g (vA #[oA (sK r),qA cA] 172);have X:=nB.new g #[oA (sK r),qA cA] 172;rw[j]at X;have l:=bB (aGt h X (x.z (vB y c)) (by have:=x.1;omega));have C:cB (∀k av,qD (w.1.size+1+1) (g.alloc (vA #[oA (sK r),qA cA] 172)) k->tG k (g.alloc (vA #[oA (sK r),qA cA] 172)).1.size av r.P->DB w k #[zA 0,oA kA,oA kA,zA 0,pA aA 0 0] av r.P):=λk av A J=>
  have z:=B.z c
  ⟨z.R.but A (by omega),z.K.but A (by omega),J.mono (by simp[j]),z.N.trans (A.below (by omega) (by simp[j];omega))⟩
 have m:=bB (λW av i(H:pJ W av r.P)(I:uB w W)=>qi r av i W H h (x.z I));unfold xn;clear h x X c B y;generalize sK r=s at *;subst d;generalize r.P=xs at *;generalize r.K=K at *;generalize r.T=G at *;generalize r.R=E at *;generalize r.U=F at *;clear j;go_enter_defers func27,ntmps27;go_wp2_with fail;refine l.o.mono ?_;rintro e k ⟨av,i,rfl,o,c⟩;have D:=bB (C.o k av c o);clear o c l C;obtain⟨p,q,t,u,v⟩:=D.o.R.c5;have a:=D.o.R.free;go_wp2_with fail;replace D:=bB (((((D.o.set 0 (zA K)).set 1 (oA G)).set 2 (oA E)).set 3 (zA F)).set 4 (pA av (yA xs) i));clear p q t u v a;generalize (((((k.setCell (dB w.1.size 0) (zA K)).setCell (dB w.1.size 1) (oA G)).setCell (dB w.1.size 2) (oA E)).setCell (dB w.1.size 3) (zA F)).setCell (dB w.1.size 4) (pA av (yA xs) i))=Q at *;obtain⟨p,q,t,u,v⟩:=D.o.R.c5;try go_wp2_with fail
 apply lC (m.o _ _ _ D.o.O.P D.o.N);intro T n;replace D:=bB (D.o.z n);clear n m p q t u v;obtain⟨p,q,t,u,v⟩:=D.o.R.c5;have a:=D.o.R.free;have P:=D.o.K.cell 0;have b:=D.o.K.free 0;go_wp2_with fail;refine tD (CA _ _) ?_;go_wp2;refine leaves_cons (f:=80) (args:=#[.pointer (yB w.1.size),.pointer (yB (w.1.size+1))]) (by simp) (by simp[go_sem]) ?_;refine(fq _ _ _).mono ?_;rintro e S M ⟨rfl,rfl,rfl⟩;simp[Leaves,settle,results,results27,go_sem,p,q,t,u,v,P];exact⟨((((((D.o.O.but ((qD.refl w.1.size _).setCell 0 _) (by omega)).but ((qD.refl w.1.size _).setCell 1 _) (by omega)).but ((qD.refl w.1.size _).setCell 2 _) (by omega)).but ((qD.refl w.1.size _).setCell 3 _) (by omega)).but ((qD.refl w.1.size _).setCell 4 _) (by omega)).but ((qD.refl (w.1.size+1) _).setCell 0 _) (by omega)).mono (by omega),((((((D.o.N.setCell (by simp) _).setCell (by simp) _).setCell (by simp) _).setCell (by simp) _).setCell (by simp) _).setCell (by simp) _)⟩
