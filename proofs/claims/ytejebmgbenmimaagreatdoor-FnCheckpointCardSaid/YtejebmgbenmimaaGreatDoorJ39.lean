import Derived.Test.YtejebmgbenmimaaGreatDoorJ34
import Derived.Test.YtejebmgbenmimaaGreatDoorJ43
set_option maxRecDepth 100000
set_option maxHeartbeats 8000000
open Bool renaming true->iA,false->gA
open ByteArray renaming empty->pA
namespace Go.Proofs.YtejebmgbenmimaaGreatDoor
open Ending renaming returned->zA
open Obj renaming cells->aB
open Go.RowKit Tryz
theorem rB.keepS{w:World}{g h j:Nat}{a:Array Value}{t:TypeId}(c:rB w g a t)(b:g≠h)(v:Value):rB (w.setCell (iB h j) v) g a t:=
 (((uD.refl h w).setCell j v).block g (eB c) b).trans c
theorem NH(B P N:Nat)(w:World)(h:bF w B P N)(m:N<=1000000):
 Calls prog 14 #[.pointer (cC B)] w λe w'=>∃c:kC,ME c/\e=zA (oE c)/\bF w' B P (N+6)/\uD B w w':=by
 have m:fB (bF w B P N):=h;have o:=h.lt;have hPw:=h.up.2;clear h;go_enter func14,ntmps14;go_wp2_with fail;refine(nD B P N 8 _ (m.o.z aC) (by omega) (by omega) (by omega)).mono ?_;rintro e i ⟨r,h,rfl,G,t⟩;have Z:fB (bF i B P (N+1)/\uD B w i):=⟨G,(uD.of aC).trans t⟩
 have x:rB (w.alloc (aB #[dB 0,dB 0,dB 0,dB 0,dB 0,dB 0] 24)) w.1.size #[dB 0,dB 0,dB 0,dB 0,dB 0,dB 0] 24:=heap_alloc_new _ _;have h:fB (rB i w.1.size #[dB 0,dB 0,dB 0,dB 0,dB 0,dB 0] 24):=(t.block _ (eB x) (by omega)).trans x;have o:w.1.size<i.1.size:=eB h.o;have l:w.1.size<=i.1.size:=by omega
 clear G t m x;go_wp2_with fail;refine(nD B P (N+1) 7 _ (Z.o.1.z aC) (by omega) (by omega) (by omega)).mono ?_;rintro e U ⟨D,m,rfl,H,m⟩;have u:rB (i.alloc (aB #[dB (1+r),dB 6,dB 4,dB 0,dB 0,dB 0] 24)) i.1.size #[dB (1+r),dB 6,dB 4,dB 0,dB 0,dB 0] 24:=heap_alloc_new _ _;have O:fB (rB U i.1.size #[dB (1+r),dB 6,dB 4,dB 0,dB 0,dB 0] 24):=(m.block _ (eB u) (by omega)).trans u;have o:fB (bF U B P (N+2)/\uD B w U):=⟨H,(Z.o.2.z aC).trans m⟩
 have G:fB (rB U w.1.size #[dB 0,dB 0,dB 0,dB 0,dB 0,dB 0] 24):=(m.block _ (by simp;omega) (by omega)).trans (h.o.alloc _);clear H m u Z h;have c1:=O.o.cell 1;have a:=O.o.free 1;go_wp2_with fail;refine(nD B P (N+2) 5 _ (o.o.1.below (jD.setCell (by show P<=i.1.size;omega) _)) (by omega) (by omega) (by omega)).mono ?_;rintro e V ⟨F,h,rfl,I,n⟩;have y:=rB.set O.o 1 (dB (1+(D:Int)));have Q:fB (rB V i.1.size #[dB (1+r),dB (1+D),dB 4,dB 0,dB 0,dB 0] 24):=(n.block _ (eB y) (by omega)).trans y;have h:fB (bF V B P (N+3)/\uD B w V):=⟨I,(o.o.2.below_to (jD.setCell l _)).trans n⟩
 have m:fB (rB V w.1.size #[dB 0,dB 0,dB 0,dB 0,dB 0,dB 0] 24):=(n.block _ (by have:=eB G.o;simpa using this) (by omega)).trans (G.o.keepS (by omega) _);clear I n y G o O c1 a;have c2:=Q.o.cell 2;have b:=Q.o.free 2;go_wp2_with fail;refine(nD B P (N+3) 5 _ (h.o.1.below (jD.setCell (by show P<=i.1.size;omega) _)) (by omega) (by omega) (by omega)).mono ?_;rintro e W ⟨M,o,rfl,J,o⟩;have z:=rB.set Q.o 2 (dB (1+(F:Int)));have R:fB (rB W i.1.size #[dB (1+r),dB (1+D),dB (1+F),dB 0,dB 0,dB 0] 24):=(o.block _ (eB z) (by omega)).trans z;have G:fB (bF W B P (N+4)/\uD B w W):=⟨J,(h.o.2.below_to (jD.setCell l _)).trans o⟩
 have I:fB (rB W w.1.size #[dB 0,dB 0,dB 0,dB 0,dB 0,dB 0] 24):=(o.block _ (by have:=eB m.o;simpa using this) (by omega)).trans (m.o.keepS (by omega) _);clear J o z m h Q c2 b;have o:=R.o.cell 3;have d:=R.o.free 3;go_wp2_with fail;refine(nD B P (N+4) 3 _ (G.o.1.below (jD.setCell (by show P<=i.1.size;omega) _)) (by omega) (by omega) (by omega)).mono ?_;rintro e X ⟨T,h,rfl,K,p⟩;have A:=rB.set R.o 3 (dB (1+(M:Int)));have S:fB (rB X i.1.size #[dB (1+r),dB (1+D),dB (1+F),dB (1+M),dB 0,dB 0] 24):=(p.block _ (eB A) (by omega)).trans A;have h:fB (bF X B P (N+5)/\uD B w X):=⟨K,(G.o.2.below_to (jD.setCell l _)).trans p⟩
 have m:fB (rB X w.1.size #[dB 0,dB 0,dB 0,dB 0,dB 0,dB 0] 24):=(p.block _ (by have:=eB I.o;simpa using this) (by omega)).trans (I.o.keepS (by omega) _);clear K p A I G R o d;have G:=S.o.cell 4;have f:=S.o.free 4;go_wp2_with fail;refine(nD B P (N+5) 200 _ (h.o.1.below (jD.setCell (by show P<=i.1.size;omega) _)) (by omega) (by omega) (by omega)).mono ?_;rintro e Y ⟨I,J,rfl,L,q⟩;have C:=rB.set S.o 4 (dB (T:Int));have s:fB (rB Y i.1.size #[dB (1+r),dB (1+D),dB (1+F),dB (1+M),dB T,dB 0] 24):=(q.block _ (eB C) (by omega)).trans C;have J:fB (bF Y B P (N+6)/\uD B w Y):=⟨L,(h.o.2.below_to (jD.setCell l _)).trans q⟩
 have k:fB (rB Y w.1.size #[dB 0,dB 0,dB 0,dB 0,dB 0,dB 0] 24):=(q.block _ (by have:=eB m.o;simpa using this) (by omega)).trans (m.o.keepS (by omega) _);clear L q C m h S G f;have h:=s.o.cell 0;have c1:=s.o.cell 1;have c2:=s.o.cell 2;have o:=s.o.cell 3;have G:=s.o.cell 4;have h:=s.o.cell 5;have g:=s.o.free 5;have h:=k.o.cell 0;have m:=k.o.free 0;have m:=k.o.cell 1;have o:=k.o.free 1;have o:=k.o.cell 2;have G:=k.o.free 2;have G:=k.o.cell 3;have O:=k.o.free 3;have O:=k.o.cell 4;have U:=k.o.free 4;have U:=k.o.cell 5;have W:=k.o.free 5;go_wp2;refine bodyPost_ret (v:=.agg #[dB (1+r),dB (1+D),dB (1+F),dB (1+M),dB T,dB (100+I)]) (by simp[results,results14,go_sem,h,m,o,G,O,U]) rfl ?_;have j:P<=w.1.size:=hPw;have h:P<=i.1.size:=by omega
 have E:w.1.size<=w.1.size:=Ia _;refine⟨⟨1+r,1+D,1+F,1+M,T,100+I⟩,⟨⟨by simp only;omega,by simp only;omega⟩,⟨by simp only;omega,by simp only;omega⟩,⟨by simp only;omega,by simp only;omega⟩,⟨by simp only;omega,by simp only;omega⟩,⟨by simp only;omega,by simp only;omega⟩,⟨by simp only;omega,by simp only;omega⟩⟩,rfl,J.o.1.below ?_,J.o.2.below_to ?_⟩;exact (((((((jD.setCell h _).setCell j _).setCell j _).setCell j _).setCell j _).setCell j _).setCell j _);exact (((((((jD.setCell l _).setCell E _).setCell E _).setCell E _).setCell E _).setCell E _).setCell E _)
theorem oS(B P N:Nat)(w:World)(h:bF w B P N)(o:N<=1000000):
 Calls prog 48 #[.pointer (cC B)] w λe g=>∃s:vB,s.size<=16/\e=zA (.string s)/\bF g B P (N+1)/\uD B w g:=by
 have f:fB (bF w B P N):=h;have k:=h.lt;clear h;go_enter func48,ntmps48;go_wp2_with fail;have c:fB (eP (w.alloc (aB ([⟨#[97,99,109,101]⟩,⟨#[98,45,50]⟩,⟨#[122,122]⟩,⟨#[97,99,109,101]⟩].map Value.string).toArray 9)) w.1.size 4 16):=gT w _ 16 _ 4 rfl (by decide);simp only[Fc,Ag]at c;refine(nD B P N 4 _ (f.o.z aC) (by omega) (by omega) (by omega)).mono ?_;rintro e i ⟨v,m,rfl,b,a⟩;obtain⟨s,d,l⟩:=(c.o.but a (by omega)).at m;have j:fB (bF i B P (N+1)/\uD B w i):=⟨b,(uD.of aC).trans a⟩
 clear b a f c;have n:(v:Int)<4:=by omega
 go_wp2;go_ret;exact⟨s,l,rfl,j.o⟩
theorem NJ(B P N:Nat)(w:World)(h:bF w B P N)(o:N<=1000000):
 Calls prog 49 #[.pointer (cC B)] w λe g=>∃s:vB,s.size<=16/\e=zA (.string s)/\bF g B P (N+1)/\uD B w g:=by
 have f:fB (bF w B P N):=h;have k:=h.lt;clear h;go_enter func49,ntmps49;go_wp2_with fail;have c:fB (eP (w.alloc (aB ([⟨#[117,112]⟩,⟨#[99,112,117]⟩,⟨#[109,101,109]⟩,⟨#[]⟩].map Value.string).toArray 9)) w.1.size 4 16):=gT w _ 16 _ 4 rfl (by decide);simp only[Fc,Ag]at c;refine(nD B P N 4 _ (f.o.z aC) (by omega) (by omega) (by omega)).mono ?_;rintro e i ⟨v,m,rfl,b,a⟩;obtain⟨s,d,l⟩:=(c.o.but a (by omega)).at m;have j:fB (bF i B P (N+1)/\uD B w i):=⟨b,(uD.of aC).trans a⟩
 clear b a f c;have n:(v:Int)<4:=by omega
 go_wp2;go_ret;exact⟨s,l,rfl,j.o⟩
theorem WU(B P N:Nat)(w:World)(h:bF w B P N)(o:N<=1000000):
 Calls prog 52 #[.pointer (cC B)] w λe g=>∃z:Int,ir z/\e=zA (dB z)/\bF g B P (N+1)/\uD B w g:=by
 have f:fB (bF w B P N):=h;have k:=h.lt;clear h;go_enter func52,ntmps52;go_wp2_with fail;have c:fB (iu (w.alloc (aB ([0,4607182418800017408,9218868437227405312,9218868437227405313,-4503599627370496,-4503599627370495,-1,9221120237041090560,-9223372036854775808,1,4614253070214989087].map (Value.int .i64)).toArray 3)) w.1.size 11):=aCv w _ _ 11 rfl (by decide);simp only[Fc,Ag]at c;refine(nD B P N 11 _ (f.o.z aC) (by omega) (by omega) (by omega)).mono ?_;rintro e i ⟨v,m,rfl,b,a⟩;obtain⟨s,d,l⟩:=(c.o.but a (by omega)).at m;have j:fB (bF i B P (N+1)/\uD B w i):=⟨b,(uD.of aC).trans a⟩
 clear b a f c;have n:(v:Int)<11:=by omega
 go_wp2;go_ret;exact⟨s,l,rfl,j.o⟩
def iw(c:kC)(N:vC)(a:List tE):Prop:=(oF c N.now N.ts a).2.2=iA->(fG c N a).2=0
structure yi(c:kC)(N:vC)(r:fH):Prop where
 cf:mH c=iA
 up:N.up=iA
 dg:N.deg=gA
 ck:(IV c N).2=0
 tk:iw c N [⟨2,pA,pA,r.U⟩]
 lm:iw c N [⟨3,r.T,r.R,r.U⟩]
 wr:(wK c N.now r.T N.ts r.P).2.2≠[]→iw c N (wK c N.now r.T N.ts r.P).2.2
theorem yi.b{c:kC}{N:vC}{r:fH}(h:yi c N r):ZQ N=iA:=by simp[ZQ,h.up,h.dg]
section
open Go.Maps
attribute [local go_sem] lG jH uK rB.drewI dL.drewI dL.new dL.alloc dL.alloc2
theorem aBw{c:kC}{N:vC}{a:List tE}(i:mH c=iA)(j:ZQ N=iA)(g:iw c N a):(oF c N.now N.ts a).2.2=gA/\fG c N a=(N,62)\/(oF c N.now N.ts a).2.2=iA/\dC N.lsn 0 999999999999999=iA/\(aN (N.lsn+1) a).toList.isEmpty=gA/\∃K L,zH N.d N.l (aN (N.lsn+1) a) c.sg=(K,L,0)/\fG c N a=(⟨K,L,(oF c N.now N.ts a).1,(oF c N.now N.ts a).2.1,N.lsn+1,gA,iA⟩,0):=by
 unfold iw at g;unfold fG at g |-
 rw[Ja (by simp[i]),Ja (by simp[j])]at g |-
 cases ho:(oF c N.now N.ts a).2.2
 .exact Ca ⟨rfl,Ma (Ca rfl)⟩
 have h:=g ho;rw[ho]at h;refine La ⟨rfl,?_⟩;by_cases b:iA=gA\/dC N.lsn 0 999999999999999=gA\/aN (N.lsn+1) a=pA
 .rw[Ma b]at h;cases h
 rw[Ja b]at h |-
 simp only[not_or,Bool.not_eq_false]at b;rcases aLo (N:=N) (R:=zH N.d N.l (aN (N.lsn+1) a) c.sg) (S:=oF c N.now N.ts a) with⟨f,-,-,-,e⟩|⟨-,f,⟨-,e⟩|⟨-,-,-,e⟩⟩;exact ⟨b.2.1,vO.2 b.2.2,_,_,Prod.ext rfl (Prod.ext rfl (by simpa using f)),e⟩;rw[e]at h;exact absurd h f;rw[e]at h;exact absurd h f
theorem nl(c:kC)(a b:nC)(j k:Nat)(N:vC)(z:nC)(capr:Nat)(m:List tE)(w:World)(h:aDx w a b N z m)(F:mH c=iA)(G:ZQ N=iA)(H:iw c N m):
 Calls prog 69 #[oE c,.agg (sC a j b k N),.slice z m.length capr] w λe r=>oi (fG c N m) w e r:=by
 have g:=h.bulk;have E:=gB (aBw F G H);obtain⟨I,J⟩:N.up=iA/\N.deg=gA:=by simpa[ZQ]using G
 have q:=gB (λW=>xL c W);have p:=gB (λW(n:zB w W)=>RF c N.now b k N.ts z capr m W (h.tens.z n) (h.recs.z n) g);have t:=gB (λW=>zD N.lsn 0 999999999999999 W);have D:fB (∀W,zB w W->Calls prog 63 #[.agg (sC a j b k N)] W λe r=>∃a j b k,e=zA (.agg (sC a j b k N))/\wB r a N.d.fs/\uC r b N.ts/\zB W r):=λW n=>(yS a b j k N W (h.files.z n) h.fit.len (h.tens.z n) (by omega) (cU (by omega))).mono λe r ⟨a,j,b,k,d,l,o,B⟩=>⟨a,j,b,k,d,l.files,o.tens,B⟩
 have C:=gB (fun(x:dC N.lsn 0 999999999999999=iA) W(n:zB w W)=>gp (N.lsn+1) z capr m W (h.recs.z n) (ai (by omega)) h.rng (by have:=jd x;constructor<;>omega) (by omega));have i:=gB (λd W(n:zB w W)=>nk a j N.d N.l (aN (N.lsn+1) m) c.sg W (h.files.z n) h.fit (aEl (by omega)) d);rw[F]at q;unfold iS at p;unfold aEd at i;clear h g F G H;unfold oE at *;generalize fG c N m=V at *;generalize oF c N.now N.ts m=A at *;generalize aN (N.lsn+1) m=O at *;generalize zH N.d N.l O c.sg=R at *;obtain⟨d,f,h⟩:=A;have Z:=cK;dsimp only at p E;have s:=gB (NP.new (w:=w) (c:=c) (cs:=sC a j b k N));go_enter func69,ntmps69;go_wp2_with fail;apply oC (q.o _);intro w1 g;have P:=gB (s.o.z g);clear g q s;have o:=P.o.cells rfl;have h:=rF a j b k N 42;have Y:=vE a j b k N;rw[I,J]at h Y;clear I J;obtain⟨rfl,rfl⟩|⟨rfl,x,h,K,L,rfl,rfl⟩:=E.o
 all_goals
  (try (replace i:=gB (i.o rfl);dsimp only at i));clear E;(try (have h:=jd x;obtain⟨l,l⟩:=h;rw[x]at t));go_wp2_with(first
   |(go_at_call 63;refine(D.o _ (P.o.z aC).B).mono ?_;rintro e h ⟨h,h,h,h,rfl,h,l,g⟩;replace g:=xB aC g;replace P:=gB (P.o.z g);clear g o;have o:=P.o.cells rfl)
   |(go_at_call 62;refine(p.o _ P.o.B).mono ?_;rintro e m ⟨Q,T,rfl,y,g⟩;have u:=gB y.tens;replace P:=gB (P.o.z g);clear y g o;have o:=P.o.cells rfl)
   |(go_at_call 103;apply oC (t.o _);rintro B rfl)
   |(go_at_call 137;apply oC (C.o x _ (P.o.z aC).B);intro B g;have v:=(rB.new m _ _).z g;replace g:=xB aC g;replace P:=gB (P.o.z g);replace u:=gB (u.o.z g);clear g o;have o:=P.o.cells rfl)
   |(go_at_call 142;refine(i.o _ P.o.B).mono ?_;rintro e m ⟨S,U,rfl,y,g⟩;have M:=gB y;replace P:=gB (P.o.z g);replace u:=gB (u.o.z g);replace v:=v.z g;obtain⟨m,m⟩:=v.c2;have m:=eB v;have B:=Nat.ne_of_lt m;have X:=vE S U Q T ⟨K,L,d,f,N.lsn+1,gA,iA⟩;dsimp only at X;clear Z y g v o;have o:=P.o.cells rfl))
 .exact YQ rfl rfl rfl rfl P.o rfl h l
 exact YQ rfl rfl rfl rfl ((P.o.z aC).z aC) rfl ((M.o.z aC).z aC) ((u.o.z aC).z aC)
end
