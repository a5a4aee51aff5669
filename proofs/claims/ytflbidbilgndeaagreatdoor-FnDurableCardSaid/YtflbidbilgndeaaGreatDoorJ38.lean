import Derived.Test.YtflbidbilgndeaaGreatDoorJ25
import Derived.Test.YtflbidbilgndeaaGreatDoorJ23
set_option maxRecDepth 100000
set_option maxHeartbeats 8000000
open Bool renaming false->cA
open Option renaming some->bA
namespace Go.Proofs.YtflbidbilgndeaaGreatDoor
open Go renaming World->eA
open Value renaming bool->qA,slice->pA,string->oA
open Go.RowKit Tryz
theorem tB.drew{w:eA}{a:mC}{b:List iB}(h:tB w a b):tB w.drew a b:=h.z iD.drew
theorem aFx{L:iH}{b:Bool}(h:bM L=b)(w:eA):dF 119 #[.agg #[zA L.first,zA L.last,zA L.size]] w (qA b):=h ▸ DI L w
def aId(R:yD×iH×Nat)(a:mC)(cap:Nat):Value:=
 .tuple #[.agg #[pA a R.1.fs.length cap,zA R.1.c,zA R.1.k,zA R.1.cr,zA R.1.fl,qA R.1.dn],.agg #[zA R.2.1.first,zA R.2.1.last,zA R.2.1.size],zA R.2.2]
abbrev dkC(a:mC)(b:Nat)(K:yD):Array Value:=#[pA a K.fs.length b,zA K.c,zA K.k,zA K.cr,zA K.fl,qA K.dn]
theorem dt{K K':yD}{b:zN}(h:JH K.fs)(e:gF K b=(K',0))(i:b.N.size<=10)(j:b.tq.size=0)(g:b.data.size<=200000000)(f:b.K≠4):iZ K b K' 0/\JH K'.fs:=by
 have c:=tt h (by unfold maxLen;omega) (by omega) g f (by rw[e]);have d:=oT (op:=b) h (by unfold maxLen;omega) (by omega);rw[e]at c d;exact⟨c,d⟩
theorem aDk{K:yD}{L:iH}{p:jB}{b:Int}(h:(dI K L p b).2.2=0):bM L=true/\bC b 1 1000000000=true/\(uD p).toList.isEmpty=cA/\∃(l:yD)(e:iH)(c d:yD),(((L.size≠0/\b<L.size+(uD p).size)/\L.last<999999/\gF K (aH (L.last+1))=(l,0)/\e=⟨L.first,L.last+1,0⟩)\/¬(L.size≠0/\b<L.size+(uD p).size)/\l=K/\e=L)/\
 gF l (yJ e.last (uD p))=(c,0)/\gF c (zR e.last)=(d,0)/\dI K L p b=(d,⟨e.first,e.last,e.size+(uD p).size⟩,0):=by
 have r:∀(K:yD)(L:iH),(kS K L (uD p)).2.2=0->∃c d,gF K (yJ L.last (uD p))=(c,0)/\gF c (zR L.last)=(d,0)/\kS K L (uD p)=(d,⟨L.first,L.last,L.size+(uD p).size⟩,0):=λK L h=>by
  unfold kS at h |-
  split at h;exact absurd h ‹_›;split at h;exact absurd h ‹_›
  rename_i f i;simp only[Decidable.not_not]at f i;refine⟨_,_,Prod.ext rfl f,Prod.ext rfl i,?_⟩;rw[Ja (by simp[f]),Ja (by simp[i])]
 unfold dI at h |-
 by_cases f:(bM L&&bC b 1 1000000000)=cA
 .rw[Ma f]at h;cases h
 have g:bM L=true/\bC b 1 1000000000=true:=by simpa using f
 rw[Ja f]at h |-
 by_cases i:uD p=ByteArray.empty
 .rw[Ma i]at h;cases h
 rw[Ja i]at h |-
 refine⟨g.1,g.2,nP.2 i,?_⟩;have s:=g.1;simp only[bM,bC,Sa,Ab]at s;by_cases j:L.size≠0/\b<L.size+(uD p).size
 .rw[Ma j]at h |-
  by_cases q:L.last=999999
  .rw[Ma q]at h;cases h
  rw[Ja q]at h |-
  by_cases k:(gF K (aH (L.last+1))).2≠0
  .rw[Ma k]at h;exact absurd h k
  rw[Ja k]at h |-
  obtain⟨c,d,m,n,o⟩:=r _ _ h;exact⟨_,_,c,d,Ca ⟨j,by omega,Prod.ext rfl (by simpa using k),rfl⟩,m,n,o⟩
 rw[Ja j]at h |-
 obtain⟨c,d,m,n,o⟩:=r _ _ h;exact⟨_,_,c,d,La ⟨j,rfl,rfl⟩,m,n,o⟩
structure LA(w W:World)(P:Nat)(a:mC)(cap:Nat)(K:yD)(L:iH):Prop where
 D:nB W P (dkC a cap K) 35
 L:nB W (w.1.size+1) #[zA L.first,zA L.last,zA L.size] 37
 RD:nB W (w.1.size+1+1) #[pA none 0 0,zA 0,zA 0,zA 0,zA 0,qA cA] 35
 RL:nB W (w.1.size+1+1+1) #[zA 0,zA 0,zA 0] 37
 F:tB W a K.fs
 B:uB w W
section
variable {w W W':eA} {P Q:Nat} {a a':mC} {cap cap':Nat} {K K':yD} {L L':iH}
theorem LA.z(h:LA w W P a cap K L)(b:uB W W'):LA w W' P a cap K L:=⟨h.D.z b,h.L.z b,h.RD.z b,h.RL.z b,h.F.z b,vB h.B b⟩
theorem LA.cells(h:LA w W P a cap K L):(W.cell? (dB P 0)=bA (pA a K.fs.length cap)/\W.cell? (dB P 1)=bA (zA K.c)/\W.cell? (dB P 2)=bA (zA K.k)/\W.cell? (dB P 3)=bA (zA K.cr)/\W.cell? (dB P 4)=bA (zA K.fl)/\W.cell? (dB P 5)=bA (qA K.dn))/\(W.cell? (dB (w.1.size+1) 0)=bA (zA L.first)/\W.cell? (dB (w.1.size+1) 1)=bA (zA L.last)/\W.cell? (dB (w.1.size+1) 2)=bA (zA L.size))/\
 (W.cell? (dB (w.1.size+1+1) 0)=bA (pA none 0 0)/\W.cell? (dB (w.1.size+1+1) 1)=bA (zA 0)/\W.cell? (dB (w.1.size+1+1) 2)=bA (zA 0)/\W.cell? (dB (w.1.size+1+1) 3)=bA (zA 0)/\W.cell? (dB (w.1.size+1+1) 4)=bA (zA 0)/\W.cell? (dB (w.1.size+1+1) 5)=bA (qA cA))/\(W.cell? (dB (w.1.size+1+1+1) 0)=bA (zA 0)/\W.cell? (dB (w.1.size+1+1+1) 1)=bA (zA 0)/\W.cell? (dB (w.1.size+1+1+1) 2)=bA (zA 0))/\
 (∀j,W.frozen? (dB P j)=cA)/\(∀j,W.frozen? (dB (w.1.size+1) j)=cA)/\(∀j,W.frozen? (dB (w.1.size+1+1) j)=cA)/\(∀j,W.frozen? (dB (w.1.size+1+1+1) j)=cA)/\w.1.size+1+1+1<W.1.size:=
 ⟨h.D.c6,h.L.c3,h.RD.c6,h.RL.c3,h.D.free,h.L.free,h.RD.free,h.RL.free,aB h.RL⟩
theorem LA.ret(h:LA w W P a cap K L)(d:eB (λi=>i=w.1.size+1+1\/i=w.1.size+1+1+1) W W'):tB W' a K.fs/\uB w W':=
 ⟨QI h.F d λb o e c=>by obtain c|c:=c;exact FU (kX h.F h.RD) e c;exact FU (JN h.F h.RL) e c,h.B.trans (d.below h.B.size λi f e=>by omega)⟩
theorem LA.put(h:LA w W P a cap K L)(d:P=w.1.size\/w.1.size+1+1+1<P)(b:tB W a' K'.fs):LA w ((((((W.setCell (dB P 0) (pA a' K'.fs.length cap')).setCell (dB P 1) (zA K'.c)).setCell (dB P 2) (zA K'.k)).setCell (dB P 3) (zA K'.cr)).setCell (dB P 4) (zA K'.fl)).setCell (dB P 5) (qA K'.dn)) P a' cap' K' L:=
 ⟨OU h.D,h.L.but (gR _ _ _ _ _ _) (by omega),h.RD.but (gR _ _ _ _ _ _) (by omega),h.RL.but (gR _ _ _ _ _ _) (by omega),b.apart (kX b h.D) (gR _ _ _ _ _ _),h.B.trans ((eB.but (gR _ _ _ _ _ _)).below h.B.size λi f e=>by omega)⟩
theorem LA.log(h:LA w W P a cap K L)(d:P≠w.1.size+1)(b:qD (w.1.size+1) W W')(c:nB W' (w.1.size+1) #[zA L'.first,zA L'.last,zA L'.size] 37):LA w W' P a cap K L':=
 ⟨h.D.but b d,c,h.RD.but b (by omega),h.RL.but b (by omega),h.F.apart (JN h.F h.L) b,h.B.trans ((eB.but b).below h.B.size λi f e=>by omega)⟩
end
theorem tf(a:mC)(cap:Nat)(K:yD)(L:iH)(p:jB)(d:Int)(w:eA)(I:tB w a K.fs)(u:JH K.fs)(c:p.size<=1900000)(J:(dI K L p d).2.2=0):
 Calls prog 115 #[.agg (dkC a cap K),.agg #[zA L.first,zA L.last,zA L.size],oA p,zA d] w λe g=>
  ∃a' cap',e=.returned (aId (dI K L p d) a' cap')/\tB g a' (dI K L p d).1.fs/\uB w g:=by
 have h:(uD p).size<=60008:=by
  unfold uD;split;rw[Ka,Ka,gB,gB];omega;simp
 obtain⟨k,B,D,o,m,K2,K3,G,O,U,Q⟩:=aDk J;rw[Q];have c:=k;simp only[bM,bC,Sa,Ab]at c;have H1:cB (((L.size≠0/\d<L.size+(uD p).size)/\L.last<999999/\iZ K (aH (L.last+1)) o 0/\m=⟨L.first,L.last+1,0⟩)\/¬(L.size≠0/\d<L.size+(uD p).size)/\o=K/\m=L):=by
  obtain⟨q1,q2,q3,q4⟩|q:=G;exact Ca ⟨q1,q2,(dt u q3 (bL _) rfl (Oa _) (by simp[aH])).1,q4⟩;exact La q
 have hf1:JH o.fs/\1<=m.last/\m.last<=999999/\0<=m.size/\m.size<=1000000000:=by
  obtain⟨q1,q2,q3,rfl⟩|⟨_,rfl,rfl⟩:=G;exact ⟨(dt u q3 (bL _) rfl (Oa _) (by simp[aH])).2,by dsimp only;omega⟩;exact ⟨u,by omega⟩
 have c:=dt hf1.1 O (bL _) rfl (by show(uD p).size<=_;omega) (by simp[yJ]);have H2:=bB c.1;have H3:=bB (dt c.2 U (bL _) rfl (Oa _) (by simp[zR])).1;obtain⟨k,k⟩:1<=d/\d<=1000000000:=by simpa[bC]using B
 have HF:=bB I;have k:=u.len;have B:cB (p.size<=maxLen):=by show _<=_;unfold maxLen;omega
 clear I u Q G O U c J;obtain⟨F,c⟩:∃F,uD p=F:=⟨_,rfl⟩
 rw[c]at h D H1 H2 |-
 go_enter func115,ntmps115;go_wp2_with fail;apply lC (UZ p _ B.o);intro w1 G;rw[c]at *;obtain⟨O,hL,I,B,c⟩:=JV G;obtain⟨a1,i,W,h,J,hb2,Q⟩:=PJ w1 a cap K.fs (HF.o.z c) k;have k:=bB h;have D:=bB J;have A:cB (LA w W w.1.size a cap K L):=LA.z ⟨O,hL,I,B,HF.o.z c,c⟩ hb2;obtain⟨x0,-⟩:=O.c6;have f:=aB B;have Y:¬w.1.size=w1.1.size:=by omega
 have Z:w.1.size<w1.1.size:=by omega
 clear G O hL I B c h J hb2 Q;obtain⟨⟨s,-⟩,-,-,-,B,-⟩:=A.o.cells;go_upto_region 2 with fail;go_cut [11] (λc Q=>c=oA F/\∃a1 i,LA w Q w.1.size a1 i K L)
 case first=>
  go_wp2_with(at_builtin;refine Lib.wpList_append_run _ rfl _ _ _ _ rfl _ _ rfl rfl _ _ k.o ?_);go_meet;have c:qD w.1.size W (W.setCell (dB w.1.size 0) (pA a1 K.fs.length i)):=(qD.refl _ _).setCell 0 _;have h:=A.o.D.set 0 (pA a1 K.fs.length i);exact⟨rfl,a1,i,by simpa using h,A.o.L.but c (by omega),A.o.RD.but c (by omega),A.o.RL.but c (by omega),D.o.apart (kX D.o A.o.D) c,A.o.B.setCell (Ia _) _⟩
 clear A s B x0 f Y Z k D;obtain⟨rfl,a1,i,hA⟩:=hcut;rename eA=>w2;have A:=bB hA;clear hA;obtain⟨⟨s,N,O,R,S,T⟩,⟨V,X,Y⟩,⟨x,y,z,C,E,G⟩,⟨H,I,J⟩,Z,c,k,B,f⟩:=A.o.cells;go_upto_region 7 with(first
  |(go_at_call 119;refine lC (aFx (by assumption) _) ?_;intro w3 hb3;replace A:=bB (A.o.z hb3);clear s N O R S T V X Y x y z C E G H I J Z c k B f hb3;obtain⟨⟨s,N,O,R,S,T⟩,⟨V,X,Y⟩,⟨x,y,z,C,E,G⟩,⟨H,I,J⟩,Z,c,k,B,f⟩:=A.o.cells)
  |(go_at_call 91;refine dR (rD (by assumption) _) ?_))
 go_cut [48] (λD Q=>D=qA (decide (L.size≠0/\d<L.size+F.size))/\Q=w3)
 case first=>
  have U:(L.size==0)=true/\(L.size != 0)=cA/\decide (L.size≠0/\d<L.size+F.size)=cA\/(L.size==0)=cA/\(L.size != 0)=true/\(d<L.size+F.size/\decide (L.size≠0/\d<L.size+F.size)=true\/¬d<L.size+F.size/\decide (L.size≠0/\d<L.size+F.size)=cA):=by
   by_cases h:L.size=0
   .left;simp[h]
   right;by_cases D:d<L.size+F.size<;>simp[h,D]
  obtain⟨x1,x2,h⟩|⟨x1,x2,⟨x3,h⟩|⟨x3,h⟩⟩:=U
  all_goals
   have h:=bB h;go_wp2;go_meet;exact⟨by rw[h.o],rfl⟩
 obtain⟨rfl,h⟩:=hcut;subst h;rename eA=>w3;clear s N O R S T V X Y x y z C E G H I J Z c k B f;go_upto_if 48 with fail;go_cut [12,13] (λ_ _ Q=>∃(a9:mC)(cap9:Nat),LA w Q w.1.size a9 cap9 o m)
 case first=>as_aux_lemma=>
  obtain⟨j,h,D,rfl⟩|⟨j,rfl,rfl⟩:=H1.o
  .have HST:cB (iZ _ ⟨1,zE (L.last+1),⟨#[]⟩,⟨#[]⟩,0⟩ _ _):=D;have U:cB (L.last<999999):=h;rw[Ac j];have U:(L.last==999999)=cA:=by simp;omega
   have U:IntKind.i64.wrap (L.last+1)=L.last+1:=by rw[IntKind.wrap_i64];omega
   clear j D H1 H2 H3 h;obtain⟨⟨s,N,O,R,S,T⟩,⟨V,X,Y⟩,⟨x,y,z,C,E,G⟩,⟨H,I,J⟩,Z,c,k,B,f⟩:=A.o.cells;clear x y z C E G H I J k B;go_upto_region 10 with fail;go_cut [12,13] (λsa sb Q=>∃P,sa=.pointer (yB P)/\sb=zA 0/\PX w3 P o.fs o.c o.k o.cr o.fl o.dn Q)
   case first=>
    have l:=bB (λg(h:uB w3 g)=>(⟨(A.o.D.z h).c6,(A.o.L.z h).c3⟩:_/\_));go_region_held3 (λg=>(g.cell? (dB w.1.size 0)=bA (pA a1 K.fs.length i)/\g.cell? (dB w.1.size 1)=bA (zA K.c)/\g.cell? (dB w.1.size 2)=bA (zA K.k)/\g.cell? (dB w.1.size 3)=bA (zA K.cr)/\g.cell? (dB w.1.size 4)=bA (zA K.fl)/\g.cell? (dB w.1.size 5)=bA (qA K.dn))/\g.cell? (dB (w.1.size+1) 0)=bA (zA L.first)/\g.cell? (dB (w.1.size+1) 1)=bA (zA L.last)/\g.cell? (dB (w.1.size+1) 2)=bA (zA L.size))
     (first|with_reducible exact l.o _ (aCj U (Ia _))|with_reducible exact l.o _ (aCj U n.size)|with_reducible exact l.o _ U|with_reducible exact l.o _ n|with_reducible exact l.o _ (vB n zB)|with_reducible exact l.o _ iD.drew|with_reducible exact l.o _ (zB.drew)|with_reducible exact l.o _ (vB U zB))
     (first
     |(go_at_call 104;apply lC (rR _ _);intro v2 j;have n:uB w3 v2:=(by first|with_reducible exact vB iD.drew j|with_reducible exact vB (zB.drew) j);have c2:=l.o _ n;(first|(have W:=uK j)|skip))
     |(go_at_call 42;refine(HST.o _ _ _ (A.o.F.z (by first|with_reducible exact n|with_reducible exact vB n zB))).mono ?_;rintro e v3 ⟨a2,D,rfl,how,j⟩;have M:=bB how;have U:uB w3 v3:=(by first|with_reducible exact vB n j|with_reducible exact vB (vB n zB) j);have c3:=l.o _ U;(first|(have W:=W.z j)|(have W:nB _ v2.1.size _ _:=sM j)|skip);(try (obtain⟨q0,q1,q2,q3,q4,q5⟩:=W.c6;have b:=W.free))))
    all_goals(go_wp2_with fail;go_meet)
    all_goals first
     |with_reducible exact⟨_,rfl,rfl,ry M.o U⟩
     |exact⟨_,rfl,rfl,rz M.o U (by first|exact Ia _|exact n.size) W⟩
   obtain⟨P,rfl,rfl,a2,D,hP,hPB,hf2,hb4⟩:=hcut;rename eA=>w4;have hN3:w.1.size+1+1+1<P:=by omega
   replace A:=bB (A.o.z hb4);have F4:=bB hf2;clear s N O R S T V X Y Z c f;obtain⟨⟨s,N,O,R,S,T⟩,⟨V,X,Y⟩,⟨x,y,z,C,E,G⟩,⟨H,I,J⟩,Z,c,k,B,f⟩:=A.o.cells;obtain⟨x0,x1,x2,x3,x4,x5⟩:=hPB.c6;clear hPB hf2 hb4;go_upto_region 11 with fail;go_cut [] (λQ=>LA w Q w.1.size a2 D o L)
   case first=>
    go_wp2_with fail;go_meet;exact A.o.put (Ca rfl) F4.o
   rename eA=>w5;replace A:=bB hcut;clear hcut x0 x1 x2 x3 x4 x5 F4 s N O R S T V X Y x y z C E G H I J Z c k B f;obtain⟨⟨s,N,O,R,S,T⟩,⟨V,X,Y⟩,⟨x,y,z,C,E,G⟩,⟨H,I,J⟩,Z,c,k,B,f⟩:=A.o.cells;go_wp2_with fail;go_meet;have hLn:=(A.o.L.set 1 (zA (L.last+1))).set 2 (zA 0);exact⟨a2,D,A.o.log (by omega) (((qD.refl _ _).setCell 1 _).setCell 2 _) (by simpa using hLn)⟩
  rw[Ub j];clear j H1;go_wp2_with fail;go_meet;exact⟨a1,i,A.o⟩
 clear A H1 HF;obtain⟨a9,cap9,hA⟩:=hcut;rename eA=>w9;have A:=bB hA;obtain⟨-,h91,h92,h93,h94⟩:=hf1;have HS2:cB (iZ _ ⟨2,zE m.last,⟨#[]⟩,F,0⟩ _ _):=H2.o;have HS3:cB (iZ _ ⟨3,zE m.last,⟨#[]⟩,⟨#[]⟩,0⟩ _ _):=H3.o;clear hA H2 H3;obtain⟨⟨s,N,O,R,S,T⟩,⟨V,X,Y⟩,⟨x,y,z,C,E,G⟩,⟨H,I,J⟩,Z,c,k,B,f⟩:=A.o.cells;clear x y z C E G H I J k B;go_upto_region 16 with fail;go_cut [14,15] (λsa sb Q=>∃P,sa=.pointer (yB P)/\sb=zA 0/\PX w9 P K2.fs K2.c K2.k K2.cr K2.fl K2.dn Q)
 case first=>as_aux_lemma=>
  have l:=bB (λg(h:uB w9 g)=>(⟨(A.o.D.z h).c6,(A.o.L.z h).c3⟩:_/\_));go_region_held3 (λg=>(g.cell? (dB w.1.size 0)=bA (pA a9 o.fs.length cap9)/\g.cell? (dB w.1.size 1)=bA (zA o.c)/\g.cell? (dB w.1.size 2)=bA (zA o.k)/\g.cell? (dB w.1.size 3)=bA (zA o.cr)/\g.cell? (dB w.1.size 4)=bA (zA o.fl)/\g.cell? (dB w.1.size 5)=bA (qA o.dn))/\g.cell? (dB (w.1.size+1) 0)=bA (zA m.first)/\g.cell? (dB (w.1.size+1) 1)=bA (zA m.last)/\g.cell? (dB (w.1.size+1) 2)=bA (zA m.size))
   (first|with_reducible exact l.o _ (aCj U (Ia _))|with_reducible exact l.o _ (aCj U n.size)|with_reducible exact l.o _ U|with_reducible exact l.o _ n|with_reducible exact l.o _ (vB n zB)|with_reducible exact l.o _ iD.drew|with_reducible exact l.o _ (zB.drew)|with_reducible exact l.o _ (vB U zB))
   (first
   |(go_at_call 104;apply lC (rR _ _);intro v2 j;have n:uB w9 v2:=(by first|with_reducible exact vB iD.drew j|with_reducible exact vB (zB.drew) j);have c2:=l.o _ n;(first|(have W:=uK j)|skip))
   |(go_at_call 42;refine(HS2.o _ _ _ (A.o.F.z (by first|with_reducible exact n|with_reducible exact vB n zB))).mono ?_;rintro e v3 ⟨a2,D,rfl,how,j⟩;have M:=bB how;have U:uB w9 v3:=(by first|with_reducible exact vB n j|with_reducible exact vB (vB n zB) j);have c3:=l.o _ U;(first|(have W:=W.z j)|(have W:nB _ v2.1.size _ _:=sM j)|skip);(try (obtain⟨q0,q1,q2,q3,q4,q5⟩:=W.c6;have b:=W.free))))
  all_goals(go_wp2_with fail;go_meet)
  all_goals first
   |with_reducible exact⟨_,rfl,rfl,ry M.o U⟩
   |exact⟨_,rfl,rfl,rz M.o U (by first|exact Ia _|exact n.size) W⟩
 obtain⟨P,rfl,rfl,W,h,hP,hPB,D,t⟩:=hcut;rename eA=>U;have hN3:w.1.size+1+1+1<P:=by omega
 have hA:LA w U P W h K2 m:=⟨hPB,A.o.L.z t,A.o.RD.z t,A.o.RL.z t,D,vB A.o.B t⟩
 replace A:=bB hA;clear hA hPB D t s N O R S T V X Y Z c f;obtain⟨⟨s,N,O,R,S,T⟩,⟨V,X,Y⟩,⟨x,y,z,C,E,G⟩,⟨H,I,J⟩,Z,c,k,B,f⟩:=A.o.cells;go_upto_region 19 with fail;go_cut [15] (λsb Q=>sb=zA 0/\∃h r,LA w Q P h r K3 m)
 case first=>as_aux_lemma=>
  go_region_with (first
   |(go_at_call 104;apply lC (rR _ _);intro v2 hb2;have D:=bB (A.o.z (vB iD.drew hb2));obtain⟨⟨x0,x1,x2,x3,x4,x5⟩,-⟩:=D.o.cells)
   |(go_at_call 42;refine(HS3.o _ _ _ D.o.F).mono ?_;rintro e v3 ⟨h,r,rfl,how,hb3⟩;have M:=bB how;have Q:=bB (D.o.z hb3);obtain⟨⟨q0,q1,q2,q3,q4,q5⟩,-,-,-,b,-⟩:=Q.o.cells))
  all_goals
   go_wp2_with fail;go_meet;exact⟨rfl,h,r,Q.o.put (La (by omega)) M.o⟩
 obtain⟨rfl,h,r,hA⟩:=hcut;rename eA=>D;replace A:=bB hA;clear hA s N O R S T V X Y x y z C E G H I J Z c k B f;obtain⟨⟨s,N,O,R,S,T⟩,⟨V,X,Y⟩,⟨x,y,z,C,E,G⟩,⟨H,I,J⟩,Z,c,k,B,f⟩:=A.o.cells;go_upto_region 22 with fail;have hLn:=A.o.L.set 2 (zA (m.size+F.size));replace A:cB (LA w _ P h r K3 ⟨m.first,m.last,m.size+F.size⟩):=A.o.log (by omega) ((qD.refl _ _).setCell 2 _) (by simpa using hLn);clear hLn s N O R S T V X Y x y z C E G H I J Z c k B f;generalize D.setCell (dB (w.1.size+1) 2) (zA (m.size+F.size))=h at *;obtain⟨⟨s,N,O,R,S,T⟩,⟨V,X,Y⟩,⟨x,y,z,C,E,G⟩,⟨H,I,J⟩,Z,c,k,B,f⟩:=A.o.cells;go_region
 go_wp2;refine bodyPost_ret (v:=?_) (by simp[results,results115,go_sem,x,y,z,C,E,G,H,I,J];rfl) rfl ?_;first
  |refine⟨_,_,rfl,A.o.ret ?_⟩
  |refine⟨_,⟨_,rfl⟩,A.o.ret ?_⟩
 repeat (first|with_reducible exact eB.refl _ _|with_reducible refine eB.drew ?_|with_reducible refine eB.setCell ?_ (Ca (by simp)) _ _)
section
open Go.Lib
def cU(s:jB):List Int:=s.data.toList.map λb=>(b.toNat:Int)
def KF(a:List Int):Nat->List Int
 |0=>[]
 |k+1=>KF a k++a
theorem MJ(a:List Int)(k:Nat):(KF a k).length=k*a.length:=by
 induction k with
 |zero=>simp[KF]
 |succ k b=>rw[KF,Kb,b,Nat.succ_mul]
def pK(s:jB)(n:Nat):jB:=strOfNums (KF (cU s) n)
theorem MW(s:jB)(n:Nat):(pK s n).size=n*s.size:=by
 rw[pK,DL,MJ,cU,Xa,fR]
theorem qU(s:jB)(n:Nat)(w:eA)(O:s.size<=4)(T:n<=200):
 dF 95 #[oA s,zA (n:Nat)] w (oA (pK s n)):=by
 obtain⟨H,m,A,B,C⟩:=OA;have I:cB (prog.info? 5=bA H):=m;clear m;have o:strCells s=(cU s).map (Value.int .u8):=by simp[strCells,cU]
 have g:(cU s).length=s.size:=by rw[cU,Xa,fR]
 have E:cB (pK s n=strOfNums (KF (cU s) n)):=bB rfl;rw[E.o];clear E;have e:=MJ (cU s);rw[g]at e;have F:cB (strCells s=(cU s).map (Value.int .u8)/\(cU s).length=s.size):=⟨o,g⟩
 clear o g;generalize cU s=f at *;have u:=bB e;clear e;go_enter func95,ntmps95;go_wp2;go_loopw [5,6] (λD i wr=>∃(k:Nat)(r:mC)(t:Nat),k<=n/\i=zA (k:Nat)/\D=.slice r (KF f k).length t/\cB (wr.ownsRow w.1.size 5 1 (.slice r (KF f k).length t) (KF f k).length ((KF f k).map (Value.int .u8)))/\uB w wr) (λ_ i _=>n-(RowKit.intOf i).toNat)
 case atStart=>
  exact⟨0,_,_,by omega,rfl,rfl,eA.ownsRow_made w #[] 0 (Ia _) (by simp[maxLen]) (by simp),zB⟩
 case round=>
  obtain⟨k,r,t,S,rfl,rfl,b,c⟩:=hrel;have P:=c.size;have z:=u.o k;have y:k*s.size<=200*4:=Hf (by omega) O;by_cases M:k<n
  .have j:(k:Int)<(n:Int):=by omega
   have h:cB (KF f (k+1)=KF f k++f):=bB rfl;generalize KF f k=p at *;go_wp2_with(at_builtin;refine wpList_append_own_string _ rfl _ _ _ _ rfl w.1.size 5 H underlying22 underlying9 I.o A B C (pA r p.length t) p.length (p.map (Value.int .u8)) rfl (by exact b.o) s rfl (by simp[maxLen];omega) (by omega) (by omega) ?_;intro U R a d G);obtain⟨J,K,rfl⟩:=tF a;have v:uB w R:=c.grown d (by omega) (λq N=>zH b.o q N);rw[F.o.1,<-Ld]at a;have l:(p++f).length=p.length+s.size:=by rw[Kb,F.o.2]
   rw[<-l]at a;refine⟨⟨k+1,J,K,by omega,by go_num,by rw[h.o,l],by rw[h.o];exact a,v⟩,by simp[RowKit.intOf];omega⟩
  have j:¬((k:Int)<(n:Int)):=by omega
  have x:k=n:=by omega
  subst x;clear z y;have L:=PH b.o;go_wp2;go_ret;exact⟨rfl,c⟩
end
