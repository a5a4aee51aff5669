import Derived.Test.YtejebmgbenmimaaGreatDoorJ26
import Derived.Test.YtejebmgbenmimaaGreatDoorJ24
set_option maxRecDepth 100000
set_option maxHeartbeats 8000000
open Bool renaming false->gA
open Option renaming some->fA
namespace Go.Proofs.YtejebmgbenmimaaGreatDoor
open Go renaming World->jA
open Value renaming bool->vA,slice->uA
open Go.RowKit Tryz
theorem wB.drew{w:jA}{a:nC}{b:List nB}(h:wB w a b):wB w.drew a b:=h.z jD.drew
theorem aBr{L:aI}{b:Bool}(h:rL L=b)(w:jA):gF 144 #[.agg #[dB L.first,dB L.last,dB L.size]] w (vA b):=h ▸ BI L w
def aEd(R:eE×aI×Nat)(a:nC)(cap:Nat):Value:=
 .tuple #[.agg #[uA a R.1.fs.length cap,dB R.1.c,dB R.1.k,dB R.1.cr,dB R.1.fl,vA R.1.dn],.agg #[dB R.2.1.first,dB R.2.1.last,dB R.2.1.size],dB R.2.2]
abbrev dkC(a:nC)(b:Nat)(K:eE):Array Value:=#[uA a K.fs.length b,dB K.c,dB K.k,dB K.cr,dB K.fl,vA K.dn]
theorem ZF{K K':eE}{b:yK}{x:Nat}(h:DG K.fs)(f:fF K b=(K',x))(g:b.N.size<=10)(i:b.tq.size=0)(e:b.data.size<=200000000):iU K b K' x/\DG K'.fs:=by
 have c:=nr h (by unfold maxLen;omega) (by omega) e;have d:=nQ (op:=b) h (by unfold maxLen;omega) (by omega);rw[f]at c d;exact⟨c,d⟩
theorem ja{K:eE}{L:aI}{p:vB}{b:Int}(h:(zH K L p b).2.2=0):rL L=true/\dC b 1 1000000000=true/\(pF p).toList.isEmpty=gA/\∃(l:eE)(e:aI)(c d:eE),(((L.size≠0/\b<L.size+(pF p).size)/\L.last<999999/\fF K (pI (L.last+1))=(l,0)/\e=⟨L.first,L.last+1,0⟩)\/¬(L.size≠0/\b<L.size+(pF p).size)/\l=K/\e=L)/\
 fF l (iK e.last (pF p))=(c,0)/\fF c (xW e.last)=(d,0)/\zH K L p b=(d,⟨e.first,e.last,e.size+(pF p).size⟩,0):=by
 have r:∀(K:eE)(L:aI),(lR K L (pF p)).2.2=0->∃c d,fF K (iK L.last (pF p))=(c,0)/\fF c (xW L.last)=(d,0)/\lR K L (pF p)=(d,⟨L.first,L.last,L.size+(pF p).size⟩,0):=λK L h=>by
  unfold lR at h |-
  split at h;exact absurd h ‹_›;split at h;exact absurd h ‹_›
  rename_i f i;simp only[Decidable.not_not]at f i;refine⟨_,_,Prod.ext rfl f,Prod.ext rfl i,?_⟩;rw[Ja (by simp[f]),Ja (by simp[i])]
 unfold zH at h |-
 by_cases f:(rL L&&dC b 1 1000000000)=gA
 .rw[Ma f]at h;cases h
 have g:rL L=true/\dC b 1 1000000000=true:=by simpa using f
 rw[Ja f]at h |-
 by_cases i:pF p=ByteArray.empty
 .rw[Ma i]at h;cases h
 rw[Ja i]at h |-
 refine⟨g.1,g.2,vO.2 i,?_⟩;have s:=g.1;simp only[rL,dC,Sa,Ab]at s;by_cases j:L.size≠0/\b<L.size+(pF p).size
 .rw[Ma j]at h |-
  by_cases q:L.last=999999
  .rw[Ma q]at h;cases h
  rw[Ja q]at h |-
  by_cases k:(fF K (pI (L.last+1))).2≠0
  .rw[Ma k]at h;exact absurd h k
  rw[Ja k]at h |-
  obtain⟨c,d,m,n,o⟩:=r _ _ h;exact⟨_,_,c,d,Ca ⟨j,by omega,Prod.ext rfl (by simpa using k),rfl⟩,m,n,o⟩
 rw[Ja j]at h |-
 obtain⟨c,d,m,n,o⟩:=r _ _ h;exact⟨_,_,c,d,La ⟨j,rfl,rfl⟩,m,n,o⟩
structure LA(w W:World)(P:Nat)(a:nC)(cap:Nat)(K:eE)(L:aI):Prop where
 D:rB W P (dkC a cap K) 35
 L:rB W (w.1.size+1) #[dB L.first,dB L.last,dB L.size] 37
 RD:rB W (w.1.size+1+1) #[uA none 0 0,dB 0,dB 0,dB 0,dB 0,vA gA] 35
 RL:rB W (w.1.size+1+1+1) #[dB 0,dB 0,dB 0] 37
 F:wB W a K.fs
 B:zB w W
section
variable {w W W':jA} {P Q:Nat} {a a':nC} {cap cap':Nat} {K K':eE} {L L':aI}
theorem LA.z(h:LA w W P a cap K L)(b:zB W W'):LA w W' P a cap K L:=⟨h.D.z b,h.L.z b,h.RD.z b,h.RL.z b,h.F.z b,xB h.B b⟩
theorem LA.cells(h:LA w W P a cap K L):(W.cell? (iB P 0)=fA (uA a K.fs.length cap)/\W.cell? (iB P 1)=fA (dB K.c)/\W.cell? (iB P 2)=fA (dB K.k)/\W.cell? (iB P 3)=fA (dB K.cr)/\W.cell? (iB P 4)=fA (dB K.fl)/\W.cell? (iB P 5)=fA (vA K.dn))/\(W.cell? (iB (w.1.size+1) 0)=fA (dB L.first)/\W.cell? (iB (w.1.size+1) 1)=fA (dB L.last)/\W.cell? (iB (w.1.size+1) 2)=fA (dB L.size))/\
 (W.cell? (iB (w.1.size+1+1) 0)=fA (uA none 0 0)/\W.cell? (iB (w.1.size+1+1) 1)=fA (dB 0)/\W.cell? (iB (w.1.size+1+1) 2)=fA (dB 0)/\W.cell? (iB (w.1.size+1+1) 3)=fA (dB 0)/\W.cell? (iB (w.1.size+1+1) 4)=fA (dB 0)/\W.cell? (iB (w.1.size+1+1) 5)=fA (vA gA))/\(W.cell? (iB (w.1.size+1+1+1) 0)=fA (dB 0)/\W.cell? (iB (w.1.size+1+1+1) 1)=fA (dB 0)/\W.cell? (iB (w.1.size+1+1+1) 2)=fA (dB 0))/\
 (∀j,W.frozen? (iB P j)=gA)/\(∀j,W.frozen? (iB (w.1.size+1) j)=gA)/\(∀j,W.frozen? (iB (w.1.size+1+1) j)=gA)/\(∀j,W.frozen? (iB (w.1.size+1+1+1) j)=gA)/\w.1.size+1+1+1<W.1.size:=
 ⟨h.D.c6,h.L.c3,h.RD.c6,h.RL.c3,h.D.free,h.L.free,h.RD.free,h.RL.free,eB h.RL⟩
theorem LA.ret(h:LA w W P a cap K L)(d:jB (λi=>i=w.1.size+1+1\/i=w.1.size+1+1+1) W W'):wB W' a K.fs/\zB w W':=
 ⟨NV h.F d λb o e c=>by obtain c|c:=c;exact DN (aW h.F h.RD) e c;exact DN (GG h.F h.RL) e c,h.B.trans (d.below h.B.size λi f e=>by omega)⟩
theorem LA.put(h:LA w W P a cap K L)(d:P=w.1.size\/w.1.size+1+1+1<P)(b:wB W a' K'.fs):LA w ((((((W.setCell (iB P 0) (uA a' K'.fs.length cap')).setCell (iB P 1) (dB K'.c)).setCell (iB P 2) (dB K'.k)).setCell (iB P 3) (dB K'.cr)).setCell (iB P 4) (dB K'.fl)).setCell (iB P 5) (vA K'.dn)) P a' cap' K' L:=
 ⟨MN h.D,h.L.but (kQ _ _ _ _ _ _) (by omega),h.RD.but (kQ _ _ _ _ _ _) (by omega),h.RL.but (kQ _ _ _ _ _ _) (by omega),b.apart (aW b h.D) (kQ _ _ _ _ _ _),h.B.trans ((jB.but (kQ _ _ _ _ _ _)).below h.B.size λi f e=>by omega)⟩
theorem LA.log(h:LA w W P a cap K L)(d:P≠w.1.size+1)(b:uD (w.1.size+1) W W')(c:rB W' (w.1.size+1) #[dB L'.first,dB L'.last,dB L'.size] 37):LA w W' P a cap K L':=
 ⟨h.D.but b d,c,h.RD.but b (by omega),h.RL.but b (by omega),h.F.apart (GG h.F h.L) b,h.B.trans ((jB.but b).below h.B.size λi f e=>by omega)⟩
end
theorem nk(a:nC)(cap:Nat)(K:eE)(L:aI)(p:vB)(d:Int)(w:jA)(I:wB w a K.fs)(u:DG K.fs)(c:p.size<=1900000)(J:(zH K L p d).2.2=0):
 Calls prog 142 #[.agg (dkC a cap K),.agg #[dB L.first,dB L.last,dB L.size],.string p,dB d] w λe g=>
  ∃a' cap',e=.returned (aEd (zH K L p d) a' cap')/\wB g a' (zH K L p d).1.fs/\zB w g:=by
 have h:(pF p).size<=60008:=by
  unfold pF;split;rw[Ka,Ka,oB,oB];omega;simp
 obtain⟨k,B,D,o,m,K2,K3,G,O,U,Q⟩:=ja J;rw[Q];have c:=k;simp only[rL,dC,Sa,Ab]at c;have H1:fB (((L.size≠0/\d<L.size+(pF p).size)/\L.last<999999/\iU K (pI (L.last+1)) o 0/\m=⟨L.first,L.last+1,0⟩)\/¬(L.size≠0/\d<L.size+(pF p).size)/\o=K/\m=L):=by
  obtain⟨q1,q2,q3,q4⟩|q:=G;exact Ca ⟨q1,q2,(ZF u q3 (pK _) rfl (Oa _)).1,q4⟩;exact La q
 have hf1:DG o.fs/\1<=m.last/\m.last<=999999/\0<=m.size/\m.size<=1000000000:=by
  obtain⟨q1,q2,q3,rfl⟩|⟨_,rfl,rfl⟩:=G;exact ⟨(ZF u q3 (pK _) rfl (Oa _)).2,by dsimp only;omega⟩;exact ⟨u,by omega⟩
 have c:=ZF hf1.1 O (pK _) rfl (by show(pF p).size<=_;omega);have H2:=gB c.1;have H3:=gB (ZF c.2 U (pK _) rfl (Oa _)).1;obtain⟨k,k⟩:1<=d/\d<=1000000000:=by simpa[dC]using B
 have HF:=gB I;have k:=u.len;have B:fB (p.size<=maxLen):=by show _<=_;unfold maxLen;omega
 clear I u Q G O U c J;obtain⟨F,c⟩:∃F,pF p=F:=⟨_,rfl⟩
 rw[c]at h D H1 H2 |-
 go_enter func142,ntmps142;go_wp2_with fail;apply oC (RH p _ B.o);intro w1 G;rw[c]at *;obtain⟨O,hL,I,B,c⟩:=GO G;obtain⟨a1,i,W,h,J,hb2,Q⟩:=MY w1 a cap K.fs (HF.o.z c) k;have k:=gB h;have D:=gB J;have A:fB (LA w W w.1.size a cap K L):=LA.z ⟨O,hL,I,B,HF.o.z c,c⟩ hb2;obtain⟨x0,-⟩:=O.c6;have f:=eB B;have Y:¬w.1.size=w1.1.size:=by omega
 have Z:w.1.size<w1.1.size:=by omega
 clear G O hL I B c h J hb2 Q;obtain⟨⟨s,-⟩,-,-,-,B,-⟩:=A.o.cells;go_upto_region 2 with fail;go_cut [11] (λc Q=>c=.string F/\∃a1 i,LA w Q w.1.size a1 i K L)
 case first=>
  go_wp2_with(at_builtin;refine Lib.wpList_append_run _ rfl _ _ _ _ rfl _ _ rfl rfl _ _ k.o ?_);go_meet;have c:uD w.1.size W (W.setCell (iB w.1.size 0) (uA a1 K.fs.length i)):=(uD.refl _ _).setCell 0 _;have h:=A.o.D.set 0 (uA a1 K.fs.length i);exact⟨rfl,a1,i,by simpa using h,A.o.L.but c (by omega),A.o.RD.but c (by omega),A.o.RL.but c (by omega),D.o.apart (aW D.o A.o.D) c,A.o.B.setCell (Ia _) _⟩
 clear A s B x0 f Y Z k D;obtain⟨rfl,a1,i,hA⟩:=hcut;rename jA=>w2;have A:=gB hA;clear hA;obtain⟨⟨s,N,O,R,S,T⟩,⟨V,X,Y⟩,⟨x,y,z,C,E,G⟩,⟨H,I,J⟩,Z,c,k,B,f⟩:=A.o.cells;go_upto_region 7 with(first
  |(go_at_call 144;refine oC (aBr (by assumption) _) ?_;intro w3 hb3;replace A:=gB (A.o.z hb3);clear s N O R S T V X Y x y z C E G H I J Z c k B f hb3;obtain⟨⟨s,N,O,R,S,T⟩,⟨V,X,Y⟩,⟨x,y,z,C,E,G⟩,⟨H,I,J⟩,Z,c,k,B,f⟩:=A.o.cells)
  |(go_at_call 103;refine dR (gE (by assumption) _) ?_))
 go_cut [48] (λD Q=>D=vA (decide (L.size≠0/\d<L.size+F.size))/\Q=w3)
 case first=>
  have U:(L.size==0)=true/\(L.size != 0)=gA/\decide (L.size≠0/\d<L.size+F.size)=gA\/(L.size==0)=gA/\(L.size != 0)=true/\(d<L.size+F.size/\decide (L.size≠0/\d<L.size+F.size)=true\/¬d<L.size+F.size/\decide (L.size≠0/\d<L.size+F.size)=gA):=by
   by_cases h:L.size=0
   .left;simp[h]
   right;by_cases D:d<L.size+F.size<;>simp[h,D]
  obtain⟨x1,x2,h⟩|⟨x1,x2,⟨x3,h⟩|⟨x3,h⟩⟩:=U
  all_goals
   have h:=gB h;go_wp2;go_meet;exact⟨by rw[h.o],rfl⟩
 obtain⟨rfl,h⟩:=hcut;subst h;rename jA=>w3;clear s N O R S T V X Y x y z C E G H I J Z c k B f;go_upto_if 48 with fail;go_cut [12,13] (λ_ _ Q=>∃(a9:nC)(cap9:Nat),LA w Q w.1.size a9 cap9 o m)
 case first=>as_aux_lemma=>
  obtain⟨j,h,D,rfl⟩|⟨j,rfl,rfl⟩:=H1.o
  .have HST:fB (iU _ ⟨1,tF (L.last+1),⟨#[]⟩,⟨#[]⟩,0⟩ _ _):=D;have U:fB (L.last<999999):=h;rw[Ac j];have U:(L.last==999999)=gA:=by simp;omega
   have U:IntKind.i64.wrap (L.last+1)=L.last+1:=by rw[IntKind.wrap_i64];omega
   clear j D H1 H2 H3 h;obtain⟨⟨s,N,O,R,S,T⟩,⟨V,X,Y⟩,⟨x,y,z,C,E,G⟩,⟨H,I,J⟩,Z,c,k,B,f⟩:=A.o.cells;clear x y z C E G H I J k B;go_upto_region 10 with fail;go_cut [12,13] (λsa sb Q=>∃P,sa=.pointer (cC P)/\sb=dB 0/\PX w3 P o.fs o.c o.k o.cr o.fl o.dn Q)
   case first=>
    have l:=gB (λg(h:zB w3 g)=>(⟨(A.o.D.z h).c6,(A.o.L.z h).c3⟩:_/\_));go_region_held3 (λg=>(g.cell? (iB w.1.size 0)=fA (uA a1 K.fs.length i)/\g.cell? (iB w.1.size 1)=fA (dB K.c)/\g.cell? (iB w.1.size 2)=fA (dB K.k)/\g.cell? (iB w.1.size 3)=fA (dB K.cr)/\g.cell? (iB w.1.size 4)=fA (dB K.fl)/\g.cell? (iB w.1.size 5)=fA (vA K.dn))/\g.cell? (iB (w.1.size+1) 0)=fA (dB L.first)/\g.cell? (iB (w.1.size+1) 1)=fA (dB L.last)/\g.cell? (iB (w.1.size+1) 2)=fA (dB L.size))
     (first|with_reducible exact l.o _ (xg U (Ia _))|with_reducible exact l.o _ (xg U n.size)|with_reducible exact l.o _ U|with_reducible exact l.o _ n|with_reducible exact l.o _ (xB n aC)|with_reducible exact l.o _ jD.drew|with_reducible exact l.o _ (aC.drew)|with_reducible exact l.o _ (xB U aC))
     (first
     |(go_at_call 135;apply oC (tQ _ _);intro v2 j;have n:zB w3 v2:=(by first|with_reducible exact xB jD.drew j|with_reducible exact xB (aC.drew) j);have c2:=l.o _ n;(first|(have W:=aJ j)|skip))
     |(go_at_call 57;refine(HST.o _ _ _ (A.o.F.z (by first|with_reducible exact n|with_reducible exact xB n aC))).mono ?_;rintro e v3 ⟨a2,D,rfl,how,j⟩;have M:=gB how;have U:zB w3 v3:=(by first|with_reducible exact xB n j|with_reducible exact xB (xB n aC) j);have c3:=l.o _ U;(first|(have W:=W.z j)|(have W:rB _ v2.1.size _ _:=cM j)|skip);(try (obtain⟨q0,q1,q2,q3,q4,q5⟩:=W.c6;have b:=W.free))))
    all_goals(go_wp2_with fail;go_meet)
    all_goals first
     |with_reducible exact⟨_,rfl,rfl,mu M.o U⟩
     |exact⟨_,rfl,rfl,mv M.o U (by first|exact Ia _|exact n.size) W⟩
   obtain⟨P,rfl,rfl,a2,D,hP,hPB,hf2,hb4⟩:=hcut;rename jA=>w4;have hN3:w.1.size+1+1+1<P:=by omega
   replace A:=gB (A.o.z hb4);have F4:=gB hf2;clear s N O R S T V X Y Z c f;obtain⟨⟨s,N,O,R,S,T⟩,⟨V,X,Y⟩,⟨x,y,z,C,E,G⟩,⟨H,I,J⟩,Z,c,k,B,f⟩:=A.o.cells;obtain⟨x0,x1,x2,x3,x4,x5⟩:=hPB.c6;clear hPB hf2 hb4;go_upto_region 11 with fail;go_cut [] (λQ=>LA w Q w.1.size a2 D o L)
   case first=>
    go_wp2_with fail;go_meet;exact A.o.put (Ca rfl) F4.o
   rename jA=>w5;replace A:=gB hcut;clear hcut x0 x1 x2 x3 x4 x5 F4 s N O R S T V X Y x y z C E G H I J Z c k B f;obtain⟨⟨s,N,O,R,S,T⟩,⟨V,X,Y⟩,⟨x,y,z,C,E,G⟩,⟨H,I,J⟩,Z,c,k,B,f⟩:=A.o.cells;go_wp2_with fail;go_meet;have hLn:=(A.o.L.set 1 (dB (L.last+1))).set 2 (dB 0);exact⟨a2,D,A.o.log (by omega) (((uD.refl _ _).setCell 1 _).setCell 2 _) (by simpa using hLn)⟩
  rw[Ub j];clear j H1;go_wp2_with fail;go_meet;exact⟨a1,i,A.o⟩
 clear A H1 HF;obtain⟨a9,cap9,hA⟩:=hcut;rename jA=>w9;have A:=gB hA;obtain⟨-,h91,h92,h93,h94⟩:=hf1;have HS2:fB (iU _ ⟨2,tF m.last,⟨#[]⟩,F,0⟩ _ _):=H2.o;have HS3:fB (iU _ ⟨3,tF m.last,⟨#[]⟩,⟨#[]⟩,0⟩ _ _):=H3.o;clear hA H2 H3;obtain⟨⟨s,N,O,R,S,T⟩,⟨V,X,Y⟩,⟨x,y,z,C,E,G⟩,⟨H,I,J⟩,Z,c,k,B,f⟩:=A.o.cells;clear x y z C E G H I J k B;go_upto_region 16 with fail;go_cut [14,15] (λsa sb Q=>∃P,sa=.pointer (cC P)/\sb=dB 0/\PX w9 P K2.fs K2.c K2.k K2.cr K2.fl K2.dn Q)
 case first=>as_aux_lemma=>
  have l:=gB (λg(h:zB w9 g)=>(⟨(A.o.D.z h).c6,(A.o.L.z h).c3⟩:_/\_));go_region_held3 (λg=>(g.cell? (iB w.1.size 0)=fA (uA a9 o.fs.length cap9)/\g.cell? (iB w.1.size 1)=fA (dB o.c)/\g.cell? (iB w.1.size 2)=fA (dB o.k)/\g.cell? (iB w.1.size 3)=fA (dB o.cr)/\g.cell? (iB w.1.size 4)=fA (dB o.fl)/\g.cell? (iB w.1.size 5)=fA (vA o.dn))/\g.cell? (iB (w.1.size+1) 0)=fA (dB m.first)/\g.cell? (iB (w.1.size+1) 1)=fA (dB m.last)/\g.cell? (iB (w.1.size+1) 2)=fA (dB m.size))
   (first|with_reducible exact l.o _ (xg U (Ia _))|with_reducible exact l.o _ (xg U n.size)|with_reducible exact l.o _ U|with_reducible exact l.o _ n|with_reducible exact l.o _ (xB n aC)|with_reducible exact l.o _ jD.drew|with_reducible exact l.o _ (aC.drew)|with_reducible exact l.o _ (xB U aC))
   (first
   |(go_at_call 135;apply oC (tQ _ _);intro v2 j;have n:zB w9 v2:=(by first|with_reducible exact xB jD.drew j|with_reducible exact xB (aC.drew) j);have c2:=l.o _ n;(first|(have W:=aJ j)|skip))
   |(go_at_call 57;refine(HS2.o _ _ _ (A.o.F.z (by first|with_reducible exact n|with_reducible exact xB n aC))).mono ?_;rintro e v3 ⟨a2,D,rfl,how,j⟩;have M:=gB how;have U:zB w9 v3:=(by first|with_reducible exact xB n j|with_reducible exact xB (xB n aC) j);have c3:=l.o _ U;(first|(have W:=W.z j)|(have W:rB _ v2.1.size _ _:=cM j)|skip);(try (obtain⟨q0,q1,q2,q3,q4,q5⟩:=W.c6;have b:=W.free))))
  all_goals(go_wp2_with fail;go_meet)
  all_goals first
   |with_reducible exact⟨_,rfl,rfl,mu M.o U⟩
   |exact⟨_,rfl,rfl,mv M.o U (by first|exact Ia _|exact n.size) W⟩
 obtain⟨P,rfl,rfl,U,h,hP,hPB,o,t⟩:=hcut;rename jA=>D;have hN3:w.1.size+1+1+1<P:=by omega
 have hA:LA w D P U h K2 m:=⟨hPB,A.o.L.z t,A.o.RD.z t,A.o.RL.z t,o,xB A.o.B t⟩
 replace A:=gB hA;clear hA hPB o t s N O R S T V X Y Z c f;obtain⟨⟨s,N,O,R,S,T⟩,⟨V,X,Y⟩,⟨x,y,z,C,E,G⟩,⟨H,I,J⟩,Z,c,k,B,f⟩:=A.o.cells;go_upto_region 19 with fail;go_cut [15] (λsb Q=>sb=dB 0/\∃h r,LA w Q P h r K3 m)
 case first=>as_aux_lemma=>
  go_region_with (first
   |(go_at_call 135;apply oC (tQ _ _);intro v2 hb2;have o:=gB (A.o.z (xB jD.drew hb2));obtain⟨⟨x0,x1,x2,x3,x4,x5⟩,-⟩:=o.o.cells)
   |(go_at_call 57;refine(HS3.o _ _ _ o.o.F).mono ?_;rintro e v3 ⟨h,r,rfl,how,hb3⟩;have M:=gB how;have D:=gB (o.o.z hb3);obtain⟨⟨q0,q1,q2,q3,q4,q5⟩,-,-,-,b,-⟩:=D.o.cells))
  all_goals
   go_wp2_with fail;go_meet;exact⟨rfl,h,r,D.o.put (La (by omega)) M.o⟩
 obtain⟨rfl,h,r,hA⟩:=hcut;rename jA=>o;replace A:=gB hA;clear hA s N O R S T V X Y x y z C E G H I J Z c k B f;obtain⟨⟨s,N,O,R,S,T⟩,⟨V,X,Y⟩,⟨x,y,z,C,E,G⟩,⟨H,I,J⟩,Z,c,k,B,f⟩:=A.o.cells;go_upto_region 22 with fail;have hLn:=A.o.L.set 2 (dB (m.size+F.size));replace A:fB (LA w _ P h r K3 ⟨m.first,m.last,m.size+F.size⟩):=A.o.log (by omega) ((uD.refl _ _).setCell 2 _) (by simpa using hLn);clear hLn s N O R S T V X Y x y z C E G H I J Z c k B f;generalize o.setCell (iB (w.1.size+1) 2) (dB (m.size+F.size))=h at *;obtain⟨⟨s,N,O,R,S,T⟩,⟨V,X,Y⟩,⟨x,y,z,C,E,G⟩,⟨H,I,J⟩,Z,c,k,B,f⟩:=A.o.cells;go_region
 go_wp2;refine bodyPost_ret (v:=?_) (by simp[results,results142,go_sem,x,y,z,C,E,G,H,I,J];rfl) rfl ?_;first
  |refine⟨_,_,rfl,A.o.ret ?_⟩
  |refine⟨_,⟨_,rfl⟩,A.o.ret ?_⟩
 repeat (first|with_reducible exact jB.refl _ _|with_reducible refine jB.drew ?_|with_reducible refine jB.setCell ?_ (Ca (by simp)) _ _)
