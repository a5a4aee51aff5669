import Derived.Test.YtflbidbilgndeaaGreatDoorJ33
import Derived.Test.YtflbidbilgndeaaGreatDoorJ32
set_option maxRecDepth 100000
set_option maxHeartbeats 8000000
set_option linter.defProp false
open Option renaming some->bA,none->aA
open List renaming length->yA
namespace Go.Proofs.YtflbidbilgndeaaGreatDoor
open Go renaming World->eA,Value->iA,Calls->gA
open Value renaming slice->pA,string->oA,pointer->sA
open Obj renaming cells->vA
open Ending renaming returned->uA
open Go.RowKit Tryz
def BQ{k b:Int}{t m:jB}{d:List XV}{a:mC}{c:Nat}(f:1<=k/\k<=6)(j:t.size<=16)(g:m.size<=16)(i : -100<=b/\b<=100)(l:yA d<=5)(e:aLt k b t m d:=by refine⟨?_,?_,?_,?_⟩<;>intro h<;>first|rfl|exact absurd h (by decide)):QV.good ⟨k,t,m,b,d,a,c⟩:=⟨f,j,g,i,l,e⟩
section
variable {w W W' wr:eA} {B P N M X k:Nat}
theorem tcl(w:eA)(X i:Nat)(u:iA):eB (·=X) w (w.setCell (dB X i) u):=(eB.refl (·=X) w).setCell (Ca rfl) i u
theorem wO.app{α:Type}{K:fK α}{d:eA}{b a j:Nat}{T:TypeId}{v:iA}{f:List α}{y:α}(h:wO K wr b T v k f)(o:qD B wr W)(C:B<b)(u:b<=wr.1.size)(x:K.part W wr.1.size W.1.size y)
(t:d.ownsRow b T K.m (pA (yB a) (k+1) j) (k+1) (K.flat f++K.cells y))(c:eB (λi=>b<=i/\v.ownBlock=bA i) W d)(s:v.ownBlock=bA a\/W.1.size<=a):
 wO K d b T (pA (yB a) (k+1) j) (k+1) (f++[y]):=by
 have A:=o.size;have p:=λq z=>h.lt q z;exact wO.snoc t h u c.size A (λg l n r=>(c.block g (by omega) λe=>r e.2).trans (o.block g l (by omega))) (λg l n=>c.block g n λe=>by have:=p g e.2;omega) x (s.imp_left λe=>⟨e,(p _ e).2⟩)
end
def aMx:(prog.info? 47).map (λi=>(i.zero,i.size,i.bytes))=bA (bA (.agg #[zA 0,oA ⟨#[]⟩,oA ⟨#[]⟩,zA 0,pA aA 0 0]),5,72):=by kernel_rfl
def wO.made{α:Type}(K:fK α)(w:eA)(b:Nat)(e:TypeId)(a:b<=w.1.size):wO K (w.alloc (vA #[] e)) b e (pA (yB w.1.size) 0 0) 0 []:=
 ⟨eA.ownsRow_made w #[] 0 a (by simp[maxLen]) (by simp),rfl,λy d=>by cases d⟩
section
variable {w W W':eA} {X N M:Nat} {c:iC}
end
def aGh{last:Int}{text:jB}(f:0<=last)(g:last<999999):∀b∈yZ last text,US b=true/\b.K≠4:=by
 have c:qG sR=true:=by decide
 have d:qG FI=true:=by decide
 have e:qG (zE (last+1))=true:=eQ _ (by omega) (by omega);intro b a;simp only[yZ,Lb,Ed,Bf]at a;rcases a with a|a|a|a|a<;>(subst a;simp[US,bC,c,d,e])
def aKg{n:Int}(b:1<=n)(c:n<=999999):US (SD n)=true/\(SD n).K≠4:=by
 have a:qG (zE n)=true:=eQ _ (by omega) (by omega);simp[US,SD,bC,a]
def gl{G w:eA}{B P D:Nat}{K p:yD}{L:iH}(h:aO G w B P D K L)(s:pL K (dO K.fs)=(p,0)):
 gA prog 68 #[.pointer (yB P)] w λe F=>e=uA .nilIface/\aO G F B P D p L/\vJ w F:=by
 obtain⟨b,c,d,f,g,i,k,_⟩:=rG h.valid;obtain⟨v,z⟩:=h.drive;obtain⟨a,M,rfl,m⟩:=z.files;have A:=bB (kO a M K.fs sR w m (gT b) (by omega));have n:=aAc (t:=sR) (gT b);have o:cB (if dJ K.fs sR (gC sR K.fs)=true then gF K ko=(p,0) else p=K):=by
  unfold dO at s;show ite _ _ _;split at s
  .rw[Ma (n.1 ‹_›)];obtain⟨q,O,Q⟩:=cy (l:=[ko]) (j:=0) (by decide) s;cases Q
   exact O
  rw[Ja (λh=>‹¬_› (n.2 h))];cases s
  rfl
 have N:=z.cell4;obtain⟨I,-,-,-⟩:=h.wr.cells;have E:=bB h;go_enter func68,ntmps68;go_wp2_with fail;apply lC A.o;intro R y;have x:=bB (E.o.z y);have q:=bB (vJ.of y);obtain⟨J,-,-,-⟩:=x.o.wr.cells;cases hq:dJ K.fs sR (gC sR K.fs) with
 |false=>
  rw[hq]at o;obtain rfl:p=K:=o.o;go_wp2;go_ret;exact⟨rfl,x.o,q.o⟩
 |true=>
  rw[hq]at o;have C:=bB (SW ko x.o (by decide) o.o);go_wp2_with fail;apply lC C.o;rintro S ⟨u,r⟩;have H:=bB u;replace q:=bB (q.o.trans r);go_wp2;go_ret;exact⟨rfl,H.o,q.o⟩
def UH{F w:eA}{B P D:Nat}{K Z:yD}{L:iH}(c:jB)(h:aO F w B P D K L)(G:bM L=true)(I:L.last<999999)(A:pL K (zU K L c)=(Z,0)):
 gA prog 229 #[.pointer (yB P),oA c] w λe o=>e=uA .nilIface/\aO F o B P D Z ⟨L.last+1,L.last+1,0⟩:=by
 obtain⟨_,_,J,J,J,_⟩:=AH G;obtain⟨J,G,A⟩:=YF A;obtain⟨O,U,A⟩:=YF A;have W:=bB (gl h G);have Y:=bB U;have HR:=bB A;have G:IntKind.i64.wrap (L.last+1)=L.last+1:=by rw[IntKind.wrap_i64];omega
 go_enter func229,ntmps229;go_wp2_with fail;refine W.o.mono ?_;rintro e w1 ⟨rfl,G,-⟩;have p:=bB G;have r:=p.o.wr.cells;have H:=bB (aGh (text:=c) (show 0<=L.last by omega) I);go_wp2_with fail;apply lC (wL (L.last+1) _ p.o.tab);intro w2 M;replace p:=bB (p.o.z M);go_upto_region 6 with fail;refine BH (C:=λW=>Code.wp prog _ _ _ W) ?_;intro G N I;replace p:=bB (p.o.z N);have U:=bB (show nB G w2.1.size (lO (yZ L.last c)).toArray _ from I);generalize w2.1.size=G at *;generalize l:yZ L.last c=d at *;have I:yA d=5:=by rw[<-l];rfl
 go_wp2;go_loopw [35] (λi wr=>∃(j:Nat)(X:yD),j<=5/\i=zA j/\cB (pL X (d.drop j)=(O,0))/\cB (aO F wr B P D X L)/\cB (nB wr G (lO d).toArray 119)) (λi _=>5-(RowKit.intOf i).toNat)
 case atStart=>exact⟨0,J,Oa _,rfl,Y,p,U⟩
 case round=>
  obtain⟨j,X,G,rfl,a,b,g⟩:=hrel;by_cases R:j<5
  .have t:j<yA d:=by omega
   have G:=aPv (aNu g.o) j t;obtain⟨K1,E,T⟩:=cy t a.o;have HN:=bB T;have G:=H.o _ (Gb t);generalize d[j]=n at *;have I:=bB (λW(O:aO F W B P D X L)=>SW n O G E);go_upto_region 9 with fail;refine BH (C:=λW=>Code.wp prog _ _ _ W) ?_;intro x s f;have G:=bB (b.o.z s);have G4:=bB (g.o.z s);have J:=bB f;obtain⟨r,-,-,-⟩:=G.o.wr.cells;have U:tC x wr.1.size 0 (zA n.K):=f.cell 0;have U:tC x wr.1.size 1 (oA n.N):=f.cell 1;have U:tC x wr.1.size 2 (oA n.tq):=f.cell 2;have U:tC x wr.1.size 3 (oA n.data):=f.cell 3;have U:tC x wr.1.size 4 (zA n.size):=f.cell 4;have U:=bB (λW(z:uB x W)=>(⟨(G.o.z z).wr.cells.1,(f.z z).cell 0,(f.z z).cell 1,(f.z z).cell 2,(f.z z).cell 3,(f.z z).cell 4⟩:_/\_/\_/\_/\_/\_));go_wp2_with fail;go_region_held3 (λo=>o.cell? (dB P 0)=bA (.pointer (yB D))/\o.cell? (dB wr.1.size 0)=bA (zA n.K)/\o.cell? (dB wr.1.size 1)=bA (oA n.N)/\o.cell? (dB wr.1.size 2)=bA (oA n.tq)/\o.cell? (dB wr.1.size 3)=bA (oA n.data)/\o.cell? (dB wr.1.size 4)=bA (zA n.size))
    (first|exact⟨Y.o.wr.cells.1,y.o.cell 0,y.o.cell 1,y.o.cell 2,y.o.cell 3,y.o.cell 4⟩|exact U.o _ iD.drew)
    (first|(go_at_call 123;apply lC (I.o _ (G.o.z iD.drew));rintro G ⟨U,u⟩;have Y:=bB U;have y:=bB (u.blk (J.o.z iD.drew) (by decide) (by decide));have G:=bB (u.blk (G4.o.z iD.drew) (by decide) (by decide))))
   go_wp2;exact⟨⟨j+1,K1,by omega,by go_num,HN,Y,G⟩,by simp[RowKit.intOf];omega⟩
  have m:=a.o;rw[Yb (by omega)]at m;cases m
  have r:=b.o.wr.cells;go_wp2;obtain⟨G,J⟩:∃G:Nat,(G:Int)=L.last+1-L.first:=⟨(L.last+1-L.first).toNat,by omega⟩
  have Q:(L.last+1-L.first).toNat=G:=by omega
  rw[Q]at HR;have J:yA (iR L.first G)=G:=by simp[iR]
  have J:=bB (fun(k:Nat)(h:k<yA (iR L.first G))=>show(iR L.first G)[k]=SD (L.first+k) by simp[iR]);generalize iR L.first G=h at *
  go_loopw [11] (λi U=>∃(k:Nat)(Y:yD),k<=G/\i=zA (L.first+k)/\cB (pL Y (h.drop k)=(Z,0))/\cB (aO F U B P D Y L)) (λi _=>(L.last+1-RowKit.intOf i).toNat)
  case atStart=>exact⟨0,_,Oa _,by simp,HR,b⟩
  case round=>
   obtain⟨k,Y,U,rfl,a,b⟩:=hrel;by_cases R:k<G
   .have S:L.first+(k:Int)<L.last+1:=by omega
    have v:k<yA h:=by omega
    obtain⟨K1,E,T⟩:=cy v a.o;have HN:=bB T;rw[J.o k v]at E;have I:=bB (λW(O:aO F W B P D Y L)=>SW (SD (L.first+k)) O (aKg (by omega) (by omega)) E);have r:=b.o.wr.cells.1;have h:IntKind.i64.wrap (L.first+(k:Int)+1)=L.first+(k:Int)+1:=by rw[IntKind.wrap_i64];omega
    go_wp2_with fail;go_region_held3 (λo=>o.cell? (dB P 0)=bA (.pointer (yB D)))
     (first|exact h.o.wr.cells.1|exact J.o.wr.cells.1|exact(b.o.z iD.drew).wr.cells.1)
     (first
     |(go_at_call 126;apply lC (wL (L.first+k) _ (b.o.z iD.drew).tab);intro O O;have J:=bB ((b.o.z iD.drew).z O))
     |(go_at_call 123;refine(I.o _ J.o).mono ?_;rintro e I ⟨rfl,V,-⟩;have h:=bB V))
    go_wp2;exact⟨⟨k+1,K1,by omega,by go_num,HN,h⟩,by simp[RowKit.intOf];omega⟩
   obtain rfl:k=G:=by omega
   have S:¬L.first+(k:Int)<L.last+1:=by omega
   have m:=a.o;rw[Yb (by omega)]at m;cases m
   have r:=b.o.wr.cells;have q:=b.o.wr.free;have h:=bB (((b.o.set (L':=⟨L.last+1,L.last,L.size⟩) 1 (zA (L.last+1)) (by simp)).set (L':=⟨L.last+1,L.last+1,L.size⟩) 2 (zA (L.last+1)) (by simp)).set (L':=⟨L.last+1,L.last+1,0⟩) 3 (zA 0) (by simp));go_wp2;go_ret;exact⟨rfl,h.o⟩
def WL(ps:List kB):List iA:=ps.flatMap λx=>[oA x.s,zA x.n]
structure TG(w0 w':World)(B R1:Nat)(zs:Array Value)(t:TypeId)(r:jB):Prop where
 Z:nB w' R1 zs t
 N:qD B w0 w'
 T:RV w' B r
section
variable {w0 w' w'':eA} {B R1:Nat} {zs:Array iA} {t:TypeId} {r r':jB}
theorem TG.call(h:TG w0 w' B R1 zs t r)(b:RV w'' B r')(a:qD B w' w'')(c:B<R1):TG w0 w'' B R1 zs t r':=⟨h.Z.but a (by omega),h.N.trans a,b⟩
theorem TG.alloc(h:TG w0 w' B R1 zs t r)(o:Obj):TG w0 (w'.alloc o) B R1 zs t r:=⟨h.Z.alloc _,h.N.trans (qD.of zB),nB.alloc h.T _⟩
theorem TG.turn{S:Nat->Prop}(h:TG w0 w' B R1 zs t r)(b:eB S w' w'')(a:∀j,S j->R1<j)(d:B<R1)(c:w0.1.size<=R1):TG w0 w'' B R1 zs t r:=
 ⟨b.blk h.Z (λe=>by have:=a _ e;omega),h.N.upToD (b.below h.N.size λj f e=>by have:=a _ e;omega),b.blk h.T (λe=>by have:=a _ e;omega)⟩
end
def aGf{B n:Nat}{q:jB}{w:eA}(a:RV w B (pB 4 (n:Nat)++q))(c:n<4294967296)(b:q.size<=1000000):gA prog 147 #[.pointer (yB B),zA 4] w λe w'=>e=uA (zA n)/\RV w' B q/\qD B w w':=
 oR (k:=4) a (by omega) (lZ (by omega) (by omega)) b
def XO{B:Nat}{v:Int}{q:jB}{w:eA}(a:RV w B (pB 8 v++q))(c:wU v)(b:q.size<=1000000):gA prog 147 #[.pointer (yB B),zA 8] w λe w'=>e=uA (zA v)/\RV w' B q/\qD B w w':=
 oR (k:=8) a (by omega) (kZ _ c) b
def ku{B k:Nat}{ps:List kB}{q:jB}(h:k<yA ps)(g:UD ps)(i:ew ps)(j:(mE ps++q).size<=1000000):∃(d:jB)(c:Int)(m:jB),cB (∀W,RV W B (mE (ps.drop k)++q)->gA prog 149 #[.pointer (yB B),zA 2] W λe w'=>e=uA (oA d)/\RV w' B m/\qD B W w')/\cB (∀W,RV W B m->gA prog 147 #[.pointer (yB B),zA 8] W λe w'=>e=uA (zA c)/\RV w' B (mE (ps.drop (k+1))++q)/\qD B W w')/\cB (WL (ps.take (k+1))=WL (ps.take k)++[oA d,zA c]):=by
 have b:=Kd ByteArray.size (oX (ps.take k) (ps.drop k));have e:mE (ps.drop k)++q=pB 2 (ps[k].s.size:Nat)++ps[k].s++(pB 8 ps[k].n++(mE (ps.drop (k+1))++q)):=by
  rw[Cb h,mE,NK,aG];simp only[Wa]
 have f:=Kd ByteArray.size e;rw[Za]at b;have l:=g k h;simp only[Ka,gB]at b j f;refine⟨ps[k].s,ps[k].n,pB 8 ps[k].n++(mE (ps.drop (k+1))++q),λW a=>?_,λW a=>XO a (i k h) (by rw[Ka];omega),by show _=_;rw[Pa h];simp only[WL,He,Xc,List.flatMap_nil,Cd]⟩;rw[e]at a;exact xW (k:=2) a (by omega) (by omega) (by simp only[Ka,gB];omega)
def TnV(B:Nat)(t:fB)(q:jB)(w:eA)(e:Ending)(w':eA):Prop:=
 ∃M a c b d,e=uA (.agg #[oA t.N,zA t.L,pA a (yA t.M) c,pA b (yA t.Z) d])/\w.1.size<=M/\fD w' w.1.size a t.M/\(∀g o,a=bA (dB g o)->g<M)/\fD w' M b t.Z/\M<=w'.1.size/\RV w' B q/\qD B w w'
def ni{B:Nat}{t:fB}{q:jB}{w:eA}(U:RV w B (kR t++q))(h:cK t)(p:wU t.L/\ew t.M/\ew t.Z)(hs:(kR t++q).size<=1000000):
 gA prog 238 #[.pointer (yB B)] w λe w'=>TnV B t q w e w':=by
 have l:=aB U;obtain⟨z,L,d,r⟩:=t;obtain⟨o1,N,T⟩:=h;obtain⟨Y,Z,r3⟩:=p;dsimp only at o1 N T Y Z r3;have hz:=BP ⟨z,L,d,r⟩;have hz1:=nT d;have hz2:=nT r;dsimp only at hz;rw[Ka]at hs;have h:yA d<=1000000:=by omega
 have h:yA r<=1000000:=by omega
 rw[show kR ⟨z,L,d,r⟩++q=pB 1 (z.size:Nat)++z++(pB 8 L++(pB 4 (yA d:Nat)++(mE d++(pB 4 (yA r:Nat)++(mE r++q))))) by simp only[kR,JC,aN,Wa]]at U;have G:cB (TG w (w.alloc (vA #[oA ⟨#[]⟩,zA 0,pA aA 0 0,pA aA 0 0] 94)) B w.1.size #[oA ⟨#[]⟩,zA 0,pA aA 0 0,pA aA 0 0] 94 _):=⟨nB.new _ _ _,qD.of zB,nB.alloc U _⟩
 have I:=bB (λW h=>xW (B:=B) (w:=W) (k:=1) (t:=z) (q:=pB 8 L++(pB 4 (yA d:Nat)++(mE d++(pB 4 (yA r:Nat)++(mE r++q))))) h (by omega) (by omega) (by simp only[Ka,gB];omega));have J:=bB (λW h=>XO (B:=B) (w:=W) (v:=L) (q:=pB 4 (yA d:Nat)++(mE d++(pB 4 (yA r:Nat)++(mE r++q)))) h Y (by simp only[Ka,gB];omega));have K:=bB (λW h=>aGf (B:=B) (w:=W) (n:=yA d) (q:=mE d++(pB 4 (yA r:Nat)++(mE r++q))) h (by omega) (by simp only[Ka,gB];omega));have O:=bB (λW h=>aGf (B:=B) (w:=W) (n:=yA r) (q:=mE r++q) h (by omega) (by simp only[Ka];omega));have W:=bB (λk P=>ku (B:=B) (k:=k) (q:=pB 4 (yA r:Nat)++(mE r++q)) P N Z (by simp only[Ka,gB];omega));have HP2:=bB (λk P=>ku (B:=B) (k:=k) (q:=q) P T r3 (by simp only[Ka];omega));have Q0:cB (pB 4 (yA r:Nat)++(mE r++q)=mE (d.drop (yA d))++(pB 4 (yA r:Nat)++(mE r++q))/\q=mE (r.drop (yA r))++q):=by constructor<;>simp[mE]
 unfold TnV;dsimp only;clear U hs hz hz1 hz2 o1 N T Y Z r3;generalize pB 4 (yA r:Nat)++(mE r++q)=N at *;go_enter func238,ntmps238;go_wp2_with fail;apply lC (I.o _ G.o.T);rintro w1 ⟨p,m⟩;replace G:=bB (G.o.call p m l);clear p m I;go_wp2_with fail;apply lC (J.o _ G.o.T);rintro w2 ⟨p,m⟩;replace G:=bB (G.o.call p m l);clear p m J;have I:=aB G.o.Z;have X:=bB (nB.new w2 #[oA z,zA L,pA aA 0 0,pA aA 0 0] 94);replace G:=bB (G.o.alloc (vA #[oA z,zA L,pA aA 0 0,pA aA 0 0] 94));go_wp2_with fail;apply lC (K.o _ G.o.T);rintro I ⟨p,m⟩;replace G:=bB (G.o.call p m l);replace X:=bB (X.o.but m (by omega));clear p m K;generalize w2.1.size=H at *;go_wp2;go_loopw [11] (λi wr=>∃(k:Nat)(v:iA),k<=yA d/\i=zA k/\cB (TG w wr B w.1.size #[oA ⟨#[]⟩,zA 0,pA aA 0 0,pA aA 0 0] 94 (mE (d.drop k)++N))/\cB (nB wr H #[oA z,zA L,v,pA aA 0 0] 94)/\cB (wr.ownsRow (H+1) 96 2 v k (WL (d.take k)))) (λi _=>yA d-(intOf i).toNat)
 case atStart=>exact⟨0,_,Oa _,rfl,G.o,X.o,eA.ownsRow_nil _ _ _ _⟩
 case round=>
  clear G X;obtain⟨k,v,P,rfl,G,X,R⟩:=hrel;by_cases F:k<yA d
  .obtain ⟨tx,nu,rA,P1,P2,F1⟩:=W.o k F;have I:=aB X.o;have c0:tC wr H 2 v:=X.o.cell 2;go_wp2_with fail;go_region_law (first
    |((fail_if_success (have q:=a));refine eE (f:=149) (args:=#[sA (bA ⟨B,0,aA⟩),.int .i64 2]) rfl (by go_simp) ?_;apply lC (P1.o _ (nB.z G.o.T iD.drew));rintro w1 ⟨a,D⟩;have C:qD B wr w1:=(qD.of iD.drew).trans D;have J:=(X.o.but C (by omega)).cell 2;refine⟨_,rfl,?_⟩)
    |(have q:=a;clear q;(fail_if_success (have q:=b));refine eE (f:=147) (args:=#[sA (bA ⟨B,0,aA⟩),.int .i64 8]) rfl (by go_simp) ?_;apply lC (P2.o _ a);rintro w4 ⟨b,E⟩;have y:qD B wr w4:=C.trans E;have x:=bB (X.o.but y (by omega));have x4:=x.o.cell 2;have x5:=(x.o.alloc (vA #[oA tx,.int .i64 nu] 96)).cell 2;refine⟨_,rfl,?_⟩)
    |(have q:=b;clear q;refine kQ (by rfl) _ _ (by rfl) underlying91 mR rfl (by omega) (by omega) (v:=v) (by rfl) ((eB.but y).row R.o (λg s e=>by have:=(R.o.lt g s).1;omega)) (by rfl) (by rfl) rfl (by simp[iA.oneCell']) (by omega) (by have:=y.size;omega) ?_;intro gg cap w5 N A _;have s5:=(A.o.blk x.o (λe=>by omega)).cell 2;have c:=(A.o.blk x.o (λe=>by omega)).free 2))
   all_goals
    obtain⟨T,U,S⟩:=vQ x.o A.o N.o (Nat.lt_succ_self _) 2;go_wp2;exact⟨⟨k+1,_,by omega,by go_num,(G.o.call b y l).turn S (λj e=>by omega) l (Ia _),bB (by simpa using T),bB (by rw[F1.o];exact U)⟩,by simp[intOf];omega⟩
  obtain rfl:k=yA d:=by omega
  rw[Rb]at R;rw[<-Q0.o.1]at G;go_wp2_with fail;apply lC (O.o _ G.o.T);rintro w5 ⟨p,m⟩;have W:=aB X.o;have Q:=λg(s:v.ownBlock=bA g)=>(R.o.lt g s).2;have Z:=G.o.N.size;have hM5:=m.size;have Y:=bB ((eB.but m).row R.o (λg s e=>by have:=(R.o.lt g s).1;omega));replace G:=bB (G.o.call p m l);replace X:=bB (X.o.but m (by omega));clear p m O R;generalize wr.1.size=M at *;obtain⟨v1,rfl⟩:∃n,n=v:=⟨v,rfl⟩
  clear wr;go_wp2;go_loopw [26] (λi wr=>∃(k:Nat)(v:iA),k<=yA r/\i=zA k/\cB (TG w wr B w.1.size #[oA ⟨#[]⟩,zA 0,pA aA 0 0,pA aA 0 0] 94 (mE (r.drop k)++q))/\cB (nB wr H #[oA z,zA L,v1,v] 94)/\cB (wr.ownsRow M 98 2 v k (WL (r.take k)))/\cB (wr.ownsRow (H+1) 96 2 v1 (yA d) (WL d))/\M<=wr.1.size) (λi _=>yA r-(intOf i).toNat)
  case atStart=>exact⟨0,_,Oa _,rfl,G.o,X.o,eA.ownsRow_nil _ _ _ _,Y.o,hM5⟩
  case round=>
   clear G X Y;obtain⟨k,v,P,rfl,G,X,R,Y,O⟩:=hrel;by_cases F:k<yA r
   .obtain ⟨tx,nu,rA,P1,P2,F1⟩:=HP2.o k F;have hMr:=O;have I:=aB X.o;have c0:tC wr H 3 v:=X.o.cell 3;go_wp2_with fail;go_region_law (first
     |((fail_if_success (have q:=a));refine eE (f:=149) (args:=#[sA (bA ⟨B,0,aA⟩),.int .i64 2]) rfl (by go_simp) ?_;apply lC (P1.o _ (nB.z G.o.T iD.drew));rintro w1 ⟨a,D⟩;have C:qD B wr w1:=(qD.of iD.drew).trans D;have J:=(X.o.but C (by omega)).cell 3;refine⟨_,rfl,?_⟩)
     |(have q:=a;clear q;(fail_if_success (have q:=b));refine eE (f:=147) (args:=#[sA (bA ⟨B,0,aA⟩),.int .i64 8]) rfl (by go_simp) ?_;apply lC (P2.o _ a);rintro w4 ⟨b,E⟩;have y:qD B wr w4:=C.trans E;have x:=bB (X.o.but y (by omega));have x4:=x.o.cell 3;have x5:=(x.o.alloc (vA #[oA tx,.int .i64 nu] 98)).cell 3;refine⟨_,rfl,?_⟩)
     |(have q:=b;clear q;refine kQ (by rfl) _ _ (by rfl) underlying92 uT rfl (by omega) (by omega) (v:=v) (by rfl) ((eB.but y).row R.o (λg s e=>by have:=(R.o.lt g s).1;omega)) (by rfl) (by rfl) rfl (by simp[iA.oneCell']) (by omega) (by have:=y.size;omega) ?_;intro gg cap w5 N A _;have s5:=(A.o.blk x.o (λe=>by omega)).cell 3;have c:=(A.o.blk x.o (λe=>by omega)).free 3))
    all_goals
     obtain⟨T,U,S⟩:=vQ x.o A.o N.o W 3;go_wp2;exact⟨⟨k+1,_,by omega,by go_num,(G.o.call b y l).turn S (λj e=>by omega) l (Ia _),bB (by simpa using T),bB (by rw[F1.o];exact U),S.row ((eB.but y).row Y.o (λg s e=>by have:=(Y.o.lt g s).1;omega)) (λg s e=>by have I:=Q g s;have I:=(Y.o.lt g s).1;omega),Ua O (Ua y.size S.size)⟩,by simp[intOf];omega⟩
   obtain rfl:k=yA r:=by omega
   rw[Rb]at R;rw[<-Q0.o.2]at G;obtain⟨r,I,rfl⟩:=tF R.o;obtain⟨N,rc,rfl⟩:=tF Y.o;obtain⟨T,a1,a2,T⟩:=X.o.c4;obtain⟨T,C,U,W⟩:=G.o.Z.c4;have e0:=G.o.Z.free;have hZ:=aB G.o.Z;go_wp2;have u:=λx0 J x2 x3=>((((eB.refl (·=w.1.size) wr).setCell (Ca rfl) 0 x0).setCell (Ca rfl) 1 J).setCell (Ca rfl) 2 x2).setCell (Ca rfl) 3 x3;refine bodyPost_ret (v:=?_) (by simp[results,results238,go_sem,T,C,U,W];rfl) rfl ⟨M,N,rc,r,I,rfl,Z,?_,λg o h=>Q g (by rw[h];rfl),?_,?_,(u _ _ _ _).blk G.o.T (by omega),G.o.N.upToD ((u _ _ _ _).below (by omega) λq V e=>by omega)⟩
   .exact (oD ((u _ _ _ _).row Y.o (λq V e=>by have:=(Y.o.lt q V).1;omega))).mono (by omega)
   .exact oD ((u _ _ _ _).row R.o (λq V e=>by have:=(R.o.lt q V).1;omega))
   exact Ua O (u _ _ _ _).size
