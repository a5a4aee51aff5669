import Derived.Test.YtejebmgbenmimaaGreatDoorJ09
import Derived.Lib.AppendZerosOnto
set_option maxRecDepth 100000
set_option maxHeartbeats 4000000
set_option linter.defProp false
open Bool renaming true->iA,false->gA
open Option renaming some->fA,none->eA
open ByteArray renaming empty->pA
open List renaming length->cB
namespace Go.Proofs.YtejebmgbenmimaaGreatDoor
open Go renaming TypeId->oA,Value->mA,World->jA,Calls->lA
open Value renaming bool->vA,slice->uA,tuple->bB,string->tA,pointer->xA
open Ending renaming returned->zA
open Obj renaming cells->aB
open IntKind renaming i64->sA
open Go.RowKit Tryz
def mD(k a b:Int)(c:Bool):Nat×Int×Bool:=
 if c=iA then(1,k,iA) else if k=1000000000000000 then(2,k,gA) else if a≠0/\k+1=a then(1,k+1,iA) else if b≠0/\k+1=b then(2,k+1,gA) else(0,k+1,gA)
def eW(D:Nat)(t:oA)(o p:mA)(k b c:Int)(g:Bool)(w:jA)(i:rB w D #[dB k,dB b,dB c,vA g,o,p] t)(C:0<=k)(F:k<=1000000000000000):
 lA prog 188 #[.pointer (cC D)] w λe s=>e=zA (pY (mD k b c g).1)/\uD D w s/\rB s D #[dB (mD k b c g).2.1,dB b,dB c,vA (mD k b c g).2.2,o,p] t:=by
 have v:=i.cell 0;have x:=i.cell 3;simp only[Xb,Ob,Ga]at v x;have a:=i.free 0;have n:(g=iA/\mD k b c g=(1,k,iA)\/(g=gA/\k=1000000000000000)/\mD k b c g=(2,k,gA))\/g=gA/\¬k=1000000000000000:=by
  cases g<;>by_cases h:k=1000000000000000<;>simp[mD,h]
 rcases n with(⟨rfl,E⟩|⟨⟨rfl,rfl⟩,E⟩)|⟨rfl,M⟩
 iterate 2
  .have E:=gB E
   have u:=gB i;clear i
   go_enter func188,ntmps188
   go_wp2
   go_ret
   rw[E.o];exact⟨rfl,uD.refl _ _,u.o⟩
 have j:=i.set 0 (dB (k+1));have d:fB (rB (w.setCell (iB D 0) (dB (k+1))) D #[dB (k+1),dB b,dB c,vA gA,o,p] t):=by show rB _ _ _ _;simpa using j
 clear i j;have y:=d.o.cell 0;have z:=d.o.cell 1;have A:=d.o.cell 2;have B:=d.o.cell 3;simp only[Xb,Ob,Ga]at y z A B;have H:=d.o.free 3;have f:=gB ((uD.refl D w).setCell 0 (dB (k+1)));have G:IntKind.i64.wrap (k+1)=k+1:=by rw[IntKind.wrap_i64];omega
 have n:(¬b=0/\k+1=b)/\mD k b c gA=(1,k+1,iA)\/(b=0\/¬b=0/\¬k+1=b)/\((¬c=0/\k+1=c)/\mD k b c gA=(2,k+1,gA)\/(c=0\/¬c=0/\¬k+1=c)/\mD k b c gA=(0,k+1,gA)):=by
  by_cases l:b=0<;>by_cases q:k+1=b<;>by_cases m:c=0<;>by_cases r:k+1=c<;>simp_all[mD]
 obtain⟨⟨l,rfl⟩,E⟩|⟨rfl|⟨l,q⟩,⟨⟨m,rfl⟩,E⟩|⟨rfl|⟨m,r⟩,E⟩⟩:=n
 all_goals
  have E:=gB E;try have I:=Ub l
  try have J:=beq_false_of_ne q
  try have K:=Ub m
  try have L:=beq_false_of_ne r
  go_enter func188,ntmps188;go_wp2_with fail;go_quiet (fail)
  go_wp2_with fail;try (go_quiet (fail);go_wp2)
  go_ret;rw[E.o];first
   |exact⟨rfl,f.o.trans (uD.of (below_drewN (below_drewN jD _) _)),d.o.z (below_drewN (below_drewN jD _) _)⟩
   |exact⟨rfl,f.o.trans (uD.of (below_drewN jD _)),d.o.z (below_drewN jD _)⟩
   |exact⟨rfl,(f.o.trans (uD.of (below_drewN jD _))).setCell _ _,by simpa using (d.o.z (below_drewN jD nq)).set 3 (vA iA)⟩
def jq(B g b i:Nat)(l:List nB)(w:jA)(y:w.ownsRow B 115 3 (uA (cC g) (cB l) b) (cB l) (flat l))(X:i<cB l)(Y:cB l<=1048576):
 lA prog 249 #[uA (cC g) (cB l) b,dB i,dB ((i:Int)+1)] w λe w'=>
  e=zA (uA (cC g) (cB l-1) b)/\w'.ownsRow B 115 3 (uA (cC g) (cB l-1) b) (cB l-1) (flat (l.eraseIdx i))/\iE (λk=>k=g) w w':=by
 obtain⟨K,G,_,r,h,E,C,t⟩:=mR y;obtain⟨Z,F,Q,R,h⟩:=mL;obtain⟨n,H⟩:∃n,cB l=n:=⟨_,rfl⟩
 obtain⟨a,d⟩:∃a,a=flat (l.drop (i+1)):=⟨_,rfl⟩
 have f:cB a=(n-(i+1))*3:=by rw[d,zE,Rc,H]
 have L:cB (flat l)=n*3:=by rw[zE,H]
 have m:∀j,j<n*3->(w.cell? (iB g j)).isSome=iA:=λj M=>by rw[t j _ (Va (by omega))];rfl
 obtain⟨A,h,J⟩:∃A:Addr,(if b=i+1 then fA ((iB g 0):Addr) else fA (iB g ((i+1)*3)))=fA A/\fB (∀j u,a[j]?=fA u->w.drew.cell? (A.add j)=fA u):=by
  by_cases h:b=i+1
  .refine ⟨(iB g 0),by simp[h],λj u o=>?_⟩;have I:cB a=0:=by rw[f];omega
   rw[Nb.1 I]at o;simp at o
  refine ⟨(iB g ((i+1)*3)),by simp[h],λj u o=>?_⟩;rw[d,lU l (i+1) j (by omega)]at o;rw[Addr.add_lit];exact t _ _ o
 have Y:fB _:=f;have s2:fB (∀u∈a,u.oneCell'=iA):=by rw[d];exact uG _
 have h:fB (∀j,j<cB a->(w.drew.cell? (iB g (0+i*3+j))).isSome=iA/\w.drew.frozen? (iB g (0+i*3+j))=gA):=by
  intro j M;rw[f]at M;exact⟨m _ (by omega),r.free _⟩
 obtain⟨x,p⟩:∃x,x=w.drew.setCells g (0+i*3) a:=⟨_,rfl⟩
 have s:rB w.drew g K 115:=r;obtain⟨U,q,z⟩:=rB.setCells a (0+i*3) s;rw[<-p]at q;have I:∀T c,(Builtin.clear_ #[33] T #[.slice (fA (iB g ((n-1)*3))) 1 c]).run prog x=.ok (bB #[]) (x.setCells g ((n-1)*3) qZ):=λT c=>
  RC x _ T _ Z underlying33 F Q g _ c (λj M=>by obtain⟨v,I⟩:=q.there (j:=(n-1)*3+j) (by rw[z,C];omega);rw[I];rfl) (λj _=>q.free _)
 obtain⟨V,D,I⟩:=rB.setCells qZ ((n-1)*3) q;have U:fB (iE (λk=>k=g) w (x.setCells g ((n-1)*3) qZ)):=by
  show iE _ _ _;rw[p];exact iE.setCells (S:=λk=>k=g) rfl _ _ (iE.setCells (S:=λk=>k=g) rfl _ _ (iE.refl _ _).drew)
 have HO:fB ((x.setCells g ((n-1)*3) qZ).ownsRow B 115 3 (uA (cC g) (n-1) b) (n-1) (flat (l.eraseIdx i))):=by
  refine tR G D (by omega) E (by rw[I,z,C]) (by rw[zE,Ad,Ma X,H]) λj u o=>?_;have O:=(Pb.1 o).1;rw[zE,Ad,Ma X,H]at O;rw[jA.cell?_setCells_out g qZ ((n-1)*3) x _ (λ_ _=>Ca (by show j<_;omega)),p];rw[jx]at o;have P:cB (flat (l.take i))=i*3:=by rw[zE,Hb];omega
  by_cases N:j<i*3
  .rw[jA.cell?_setCells_out g a (0+i*3) _ _ (λ_ _=>Ca (by show j<_;omega))];rw[Pe (by omega),cQ l i j (by omega) N]at o;exact t j u o
  rw[Uc (by omega),P,<-d]at o;have G:=jA.cell?_setCells_in g a (0+i*3) w.drew (λk O=>(h.o k O).1) (j-i*3) (by omega);rw[show 0+i*3+(j-i*3)=j by omega]at G;rw[G,<-o,Va]
 have o:i<=b:=by omega
 have o:(0:Int)<=(i:Int)+1:=by omega
 have o:(i:Int)+1<=(n:Int):=by omega
 have o:((i:Int)+1).toNat=i+1:=by omega
 have o:¬((i:Int)=(i:Int)+1):=by omega
 have W:(b:Int)<=9223372036854775807:=by unfold maxLen at E;omega
 have o:i+(n-(i+1))=n-1:=by omega
 have o:n-(n-1)=1:=by omega
 have o:fB _:=p;rw[H];clear p y r s q D t m d L f z I C;go_enter func249,ntmps249;go_wp2_with fail;go_region_law (refine step_append_room rfl (.tmp 22) (.tmp 25) 33 rfl 115 Z 3 underlying33 F R g 0 i b (by simp[Act.eval,Act.put]) A (n-(i+1)) (b-(i+1)) a (by simp[Act.eval,Act.put]) Y.o J.o s2.o (by omega) h.o ?_;rw[<-o.o])
 go_wp2;go_ret;exact⟨rfl,HO.o,U.o⟩
def df(B g a i J:Nat)(c:List nB)(f:nB)(w:jA)(R:w.ownsRow B 115 3 (uA (cC g) (cB c) a) (cB c) (flat c))(F:DL w J f)(m:i<cB c)(C:a<cB c+1)(G:cB c<=1048576)(hBs:B<=w.1.size):
 lA prog 247 #[uA (cC g) (cB c) a,dB i,uA (cC J) 1 1] w λe w'=>
  ∃L,e=zA (uA (cC w.1.size) (cB c+1) L)/\w'.ownsRow B 115 3 (uA (cC w.1.size) (cB c+1) L) (cB c+1) (flat (iM c i f))/\zB w w':=by
 obtain⟨U,h,_,r,h,b0,hsz,V⟩:=mR R;obtain⟨O,Y,l0,o,Z⟩:=mL;obtain⟨n,hn⟩:∃n,cB c=n:=⟨_,rfl⟩
 rw[hn]at m C G h |-
 have m:(prog.info? 115).map (·.size)=fA 3:=by rw[Y];simp[o]
 have hgw:=eB r;have g0:(n:Int)+1-(i:Int)=((n+1-i:Nat):Int):=by omega
 have W:i+(n+1-i)=n+1:=by omega
 have K:cB (flat (c.take i))=i*3:=by rw[zE,Hb];omega
 have Q:(Builtin.firstCells O.size i (uA (cC g) i a)).run prog w.drew=.ok (flat (c.take i)).toArray w.drew:=by
  rw[o];exact run_firstCells_some w.drew 3 i (iB g 0) i a (flat (c.take i)) K (λj v d=>by
   rw[Addr.add_lit,Ya];have h:=(Pb.1 d).1;rw[cQ c i j (by omega) (by omega)]at d;exact V j v d)
 obtain⟨G,hG⟩:∃G,G=grownCap w (n+1) a 115:=⟨_,rfl⟩
 obtain⟨z,q⟩:∃z:Array mA,z=(flat (c.take i)).toArray++Builtin.zeroCells (mA.agg #[tA pA,tA pA,dB 0]).cells (n+1-i)++Builtin.zeroCells (mA.agg #[tA pA,tA pA,dB 0]).cells (G-(n+1)):=⟨_,rfl⟩
 obtain⟨o,I⟩:∃o,o=w.drew.alloc (aB z 115):=⟨_,rfl⟩
 have hrz:∀E,(Builtin.append_ #[33,3] E #[uA (cC g) i a,dB ((n:Int)+1-(i:Int))]).run prog w=.ok (uA (cC w.1.size) (n+1) G) o:=λE=>by
  have h:=Lib.run_append_grow_zeros w 33 3 E 115 O _ .i64 sA underlying33 underlying3 Y l0 (cC g) i a _ Q (n+1-i) (by omega) (by omega) (by omega) (by omega) (by rw[Z];omega) (by rw[Z,W];exact growslice_fits C (by omega));rw[W,<-hG,<-q,<-I]at h;rw[g0];exact h
 have h:n+1<=G:=by rw[hG];exact grownCap_ge w _ _ _
 have a0:G<=maxLen:=by rw[hG];exact grownCap_le_maxLen w (n+1) a 115 (by unfold maxLen;omega)
 have O:(mA.agg #[tA pA,tA pA,dB 0]).cells.size=3:=rfl;have s:z.size=G*3:=by
  rw[q];simp only[Array.size_append,List.size_toArray,size_zeroCells,O,K];omega
 have x:rB o w.1.size z 115:=by rw[I];exact heap_alloc_new w.drew _
 have b:zB w o:=by rw[I];exact xB jD.drew aC
 have k0:DL o J f:=rB.z F b;have c0:=r.z b;have M:∀E T,(Builtin.copy_ #[33,33] E #[.slice (fA (iB w.1.size (i*3))) (n+1-i) T,uA (cC J) 1 1]).run prog o=.ok (goInt 1) (o.setCells w.1.size (i*3) (flat [f])):=λE T=>
  dQ o _ _ E 115 w.1.size (i*3) (n+1-i) T (iB J 0) 1 1 1 3 (flat [f]) underlying33 m (by simp only[Nat.min_def];split<;>omega) rfl
   (λj v d=>by rw[Addr.add_lit,Ya];exact k0.cells j v d)
   (λj d=>by obtain⟨v,F⟩:=x.there (j:=i*3+j) (by rw[s];simp[flat]at d;omega);rw[F];rfl) (λj d=>x.free _) (uG _)
 obtain⟨p,t⟩:∃p,p=o.setCells w.1.size (i*3) (flat [f]):=⟨_,rfl⟩
 rw[<-t]at M;obtain⟨Z,y,J⟩:=rB.setCells (flat [f]) (i*3) x;rw[<-t]at y;have X:iE (λk=>k=w.1.size) o p:=by rw[t];exact iE.setCells (S:=λk=>k=w.1.size) rfl _ _ (iE.refl _ _)
 have d0:=c0.keeps X (by omega);obtain⟨H,A⟩:∃H,H=flat (c.drop i):=⟨_,rfl⟩
 have P:cB H=(n-i)*3:=by rw[A,zE,Rc,hn]
 have O:∀j u,(flat c)[j]?=fA u->U[j]?=fA u:=λj u D=>by rw[<-r.cell];exact V j u D
 have N:∀E T U,(Builtin.copy_ #[33,33] E #[.slice (fA (iB w.1.size ((i+1)*3))) (n-i) T,.slice (fA (iB g (i*3))) (n-i) U]).run prog p.drew=.ok (goInt ((n-i:Nat):Int)) (p.drew.setCells w.1.size ((i+1)*3) H):=λE T U=>
  dQ p.drew _ _ E 115 w.1.size ((i+1)*3) (n-i) T (iB g (i*3)) (n-i) U (n-i) 3 H underlying33 m (by simp only[Nat.min_def];split<;>omega) P
   (λj v d=>by
    rw[Addr.add_lit];show p.cell? _=_;rw[d0.cell];exact O _ v (by rwa [A,lU c i j (by omega)]at d))
   (λj d=>by obtain⟨v,F⟩:=y.there (j:=(i+1)*3+j) (by rw[J,s];omega);show(p.cell? _).isSome=iA;rw[F];rfl) (λj d=>y.free _) (by rw[A];exact uG _)
 obtain⟨Y,l⟩:∃Y,Y=p.drew.setCells w.1.size ((i+1)*3) H:=⟨_,rfl⟩
 rw[<-l]at N;obtain⟨U,U,j0⟩:=rB.setCells H ((i+1)*3) (show rB p.drew w.1.size Z 115 from y);rw[<-l]at U;have Z:fB (zB w Y):=by
  have k3:iE (λk=>k=w.1.size) o Y:=by rw[l];exact iE.setCells (S:=λk=>k=w.1.size) rfl _ _ X.drew
  exact b.trans (k3.below (λk e=>by omega) b.size)
 have HO:fB (Y.ownsRow B 115 3 (uA (cC w.1.size) (n+1) G) (n+1) (flat (iM c i f))):=by
  refine tR hBs U h a0 (by rw[j0,J,s]) (by rw[zE,xN _ _ _ (by omega),hn]) (TO hn (by omega) ?_ ?_ ?_);intro j u d D;rw[l,jA.cell?_setCells_out w.1.size H ((i+1)*3) _ _ (λ_ _=>Ca (by show j<_;omega))];show p.cell? _=_;rw[t,jA.cell?_setCells_out w.1.size (flat [f]) (i*3) o _ (λ_ _=>Ca d),x.cell,q];rw[<-cQ c i j (by omega) d]at D;rw[Array.append_assoc,Array.getElem?_append_left (by simp[K];omega)];simpa using D;intro j u D;have d:=(Pb.1 D).1;have h:j<3:=d;rw[l,jA.cell?_setCells_out w.1.size H ((i+1)*3) _ _ (λ_ _=>Ca (by show i*3+j<_;omega))];show p.cell? _=_;rw[t,jA.cell?_setCells_in w.1.size (flat [f]) (i*3) o (λk h=>by obtain⟨v,F⟩:=x.there (j:=i*3+k) (by rw[s];simp[flat]at h;omega);rw[F];rfl) j d,<-D,Va];intro j u D;rw[<-A]at D;have d:=(Pb.1 D).1;rw[l,jA.cell?_setCells_in w.1.size H ((i+1)*3) p.drew (λk h=>by obtain⟨v,F⟩:=y.there (j:=(i+1)*3+k) (by rw[J,s];omega);show(p.cell? _).isSome=iA;rw[F];rfl) j d,<-D,Va]
 have h:(a:Int)<(n:Int)+1:=by omega
 have h:IntKind.i64.wrap ((i:Int)+1)=(i:Int)+1:=by rw[IntKind.wrap_i64];omega
 have h:(0:Int)<=(i:Int)+1:=by omega
 have h:i<=n:=by omega
 have h:((i:Int)+1).toNat=i+1:=by omega
 have h:(i:Int)<=(n:Int)+1:=by omega
 have h:(i:Int)+1<=(n:Int)+1:=by omega
 have h:¬(G=i):=by omega
 have h:¬(G=i+1):=by omega
 have h:¬(a=i):=by omega
 have h:(i:Int)<=(a:Int):=by omega
 have h:(a:Int)<=9223372036854775807:=by unfold maxLen at b0;omega
 clear R r V O F k0 hsz J j0 A P I t l l0 m b0 x y U c0 d0 X b s q hG a0 Q g0 W K hgw;go_enter func247,ntmps247;go_wp2_with(first
  |(at_builtin;refine Lib.wpList_append_run _ rfl _ _ _ _ rfl _ _ rfl rfl _ _ (hrz _) ?_)
  |(at_builtin;refine wpList_copy_runI _ rfl _ _ 33 33 rfl _ _ rfl rfl (M _ _) ?_))
 go_region_law (refine step_copy_runI rfl _ _ 33 33 rfl _ _ (by simp[Act.eval,Act.put]) (by simp[Act.eval,Act.put]) (N _ _ _) ?_)
 go_wp2;go_ret;exact⟨G,rfl,HO.o,Z.o⟩
def ld(B t:Nat)(v:mA)(a:List nB)(f:nB)(w:jA)(d:w.ownsRow B 115 3 v (cB a) (flat a))(G:DL w t f)(F:cB a<=1048576)(o:B<=w.1.size):
 lA prog 247 #[v,dB (cB a),uA (cC t) 1 1] w λe I=>
  ∃x,e=zA x/\I.ownsRow B 115 3 x (cB a+1) (flat (iM a (cB a) f))/\iE (λk=>v.ownBlock=fA k) w I/\(x.ownBlock=v.ownBlock\/x.ownBlock=fA w.1.size):=by
 obtain⟨H,p,q,r,s⟩:=mL;have i:fB (∀j u,(flat [f])[j]?=fA u->w.cell? (((iB t 0):Addr).add j)=fA u):=λj u N=>by
  rw[Addr.add_lit,Ya];exact G.cells j u N
 have z:fB (flat (iM a (cB a) f)=flat a++flat [f]):=by
  show _=_;rw[TN];simp[flat]
 have D:fB (w.ownsRow B 115 3 v (cB a) (flat a)):=d;have C:fB _:=p;clear G p;obtain⟨rfl,K⟩|⟨g,m,J,rfl,P,L,M,y,_⟩:=d.2
 .obtain rfl:a=[]:=Nb.1 K;clear d;go_enter func247,ntmps247;go_wp2_with(at_builtin;refine wpList_append_own_at _ rfl _ _ _ rfl B 115 H _ 3 40 underlying33 C.o q r s rfl (by omega) (uA eA 0 0) 0 [] rfl D.o (iB t 0) 1 1 (flat [f]) rfl rfl i.o (uG _) (by simp[maxLen]) (by omega) o ?_;intro A O c b _ l);go_ret;exact⟨A,rfl,c,iE.grown b λg h=>h,l⟩
 have E:(m:Int)<=9223372036854775807:=by unfold maxLen at y;omega
 clear d L;generalize Q:cB a=n at *;go_enter func247,ntmps247;go_wp2_with(at_builtin;refine wpList_append_own_at _ rfl _ _ _ rfl B 115 H _ 3 40 underlying33 C.o q r s rfl (by omega) (uA (cC g) n m) n (flat a) rfl D.o (iB t 0) 1 1 (flat [f]) rfl rfl i.o (uG _) (by simp[maxLen];omega) (by omega) o ?_;intro A O c b _ l);all_goals(go_ret;rw[z.o];exact⟨A,rfl,c,iE.grown b λg h=>h,l⟩)
def OI(B h i:Nat)(v:mA)(b:List nB)(f:nB)(w:jA)(a:w.ownsRow B 115 3 v (cB b) (flat b))(p:DL w h f)(q:v.ownBlock≠fA h)(D:i<=cB b)(c:cB b<=1048576)(j:B<=w.1.size):
 lA prog 247 #[v,dB i,uA (cC h) 1 1] w λe m=>
  ∃l,e=zA l/\m.ownsRow B 115 3 l (cB b+1) (flat (iM b i f))/\iE (λk=>v.ownBlock=fA k) w m/\(l.ownBlock=v.ownBlock\/l.ownBlock=fA w.1.size):=by
 by_cases u:i=cB b
 .subst u;exact ld B h v b f w a p c j
 obtain⟨rfl,z⟩|⟨g,d,s,rfl,A,C,x,t,_⟩:=a.2;omega
 by_cases y:cB b+1<=d
 .refine (XR B g d i h b f w a p (λe=>q (by rw[e];rfl)) (by omega) y c).mono ?_;rintro e m ⟨rfl,n,o⟩;exact⟨_,rfl,n,o.mono (λk e=>by subst e;rfl),Ca rfl⟩
 refine (df B g d i h b f w a p (by omega) (by omega) c j).mono ?_;rintro e m ⟨r,rfl,n,o⟩;exact⟨_,rfl,n,iE.of o,La rfl⟩
def YM{w:jA}{B g a:Nat}{b:Array mA}{e:oA}{fs:List nB}(c:B<=g)(h:rB w g b e)(f:cB fs<=a)(d:a<=maxLen)(k:b.size=a*3)(i:∀j(m:j<cB fs),lH b 0 j fs[j]):
 w.ownsRow B e 3 (uA (cC g) (cB fs) a) (cB fs) (flat fs):=
 tR c h f d k (zE fs) λj u l=>by
  have:=jO (wQ h i) j u l;rwa [Addr.add_lit,Ya]at this
def aK{w:jA}{B g b:Nat}{e:oA}{c:List nB}(h:w.ownsRow B e 3 (uA (cC g) (cB c) b) (cB c) (flat c)):
 ∃a,B<=g/\rB w g a e/\cB c<=b/\b<=maxLen/\a.size=b*3/\∀j(m:j<cB c),lH a 0 j c[j]:=by
 obtain⟨a,q,_,l,s,r,t,d⟩:=mR h;refine⟨a,q,l,s,r,t,λj m=>?_⟩;obtain⟨n,o,p⟩:=flat_get c j m;have f:=d _ _ n;have i:=d _ _ o;have k:=d _ _ p;rw[l.cell]at f i k;exact⟨by rw[Ya];exact f,by rw[Ya];exact i,by rw[Ya];exact k⟩
def bD.slice{w:jA}{B D:Nat}{b:List nB}{c k d i:Int}{f:Bool}{v:mA}(h:bD w B D b c k d i f v)(m:0<cB b):∃g a,v=uA (cC g) (cB b) a/\g≠D/\B<=g:=by
 obtain⟨_,l⟩|⟨g,a,e,rfl,j,_⟩:=h.row.2;omega;exact ⟨g,a,rfl,h.apart g rfl,j⟩
def bD.size{w:jA}{B D:Nat}{e:List nB}{c k a d:Int}{b:Bool}{v:mA}(h:bD w B D e c k a d b v):B<=w.1.size:=by
 have:=eB h.blk;have:=h.from';omega
def bD.cell4{w:jA}{B D:Nat}{e:List nB}{c k a d:Int}{b:Bool}{v:mA}(h:bD w B D e c k a d b v):w.cell? (iB D 4)=fA v:=by
 have:=h.blk.cell 4;simpa using this
def bD.cell5{w:jA}{B D:Nat}{e:List nB}{c k a d:Int}{b:Bool}{v:mA}(h:bD w B D e c k a d b v):w.cell? (iB D 5)=fA (dB c):=by
 have:=h.blk.cell 5;simpa using this
def bD.files{w:jA}{B D:Nat}{d:List nB}{c k e g:Int}{f:Bool}{v:mA}(h:bD w B D d c k e g f v):∃a b,v=uA a (cB d) b/\wB w a d:=by
 obtain⟨a,b,rfl,i⟩:=pH h.row;exact⟨a,b,rfl,i.files⟩
def bD.put{w p:jA}{B D g d i:Nat}{b:List nB}{f:nB}{c k q s:Int}{r:Bool}{a:Array mA}(h:bD w B D b c k q s r (uA (cC g) (cB b) d))(l:uD g w p)
(x:rB p g a 115)(A:a.size=d*3)(z:∀m(t:m<cB b),lH a 0 m (if m=i then f else b[m])):bD p B D (b.set i f) c k q s r (uA (cC g) (cB b) d):=by
 obtain⟨u,v,_,y,t,_,_⟩:=aK h.row;refine⟨h.from',rB.keeps h.blk (iE.but l) (λe=>h.apart g rfl e.symm),?_,h.apart⟩;have e:cB (b.set i f)=cB b:=Pd ..;have:=YM (fs:=b.set i f) v x (by rw[e];exact y) t A (λj C=>by
  have o:=z j (by omega);rw[List.getElem_set];by_cases n:j=i
  .subst n;simpa using o
  rw[Ja n]at o;rw[Ja (Ne.symm n)];exact o)
 rw[e]at this;rw[e];exact this
def ya(b o:Nat)(c:Array mA)(t:oA)(d x:vB)(w:jA)(f:rB w b c t)(g:c[o+1]?=fA (tA d))(j:d.size+x.size<=4000000000):
 lA prog 248 #[xA (fA (iB b o)),tA x] w λe i=>e=zA (bB #[])/\i=w.setCell (iB b (o+1)) (tA (d++x)):=by
 have h:=f.cell (o+1);rw[g]at h;have a:=f.free (o+1);clear f g;go_enter func248,ntmps248;go_wp2;go_end0;exact⟨rfl,rfl⟩
def aCy{b:Array mA}{a:List nB}{i:Nat}(l:i<cB a)(h:∀m(c:m<cB a),lH b 0 m a[m])(x:vB)(s:Int):
 ∀m(c:m<cB a),lH ((b.setIfInBounds (i*3+1) (tA x)).setIfInBounds (i*3+2) (dB s)) 0 m (if m=i then⟨a[i].N,x,s⟩ else a[m]):=by
 intro m c;by_cases e:m=i
 .subst e;rw[Ma rfl];obtain⟨g,j,k⟩:=h m c;have d:=(Vb.1 j).1;have f:=(Vb.1 k).1;rw[Ya]at d f;refine⟨?_,?_,?_⟩
  .rw[Ea (by omega),Ea (by omega)];exact g
  .rw[Ya,Ea (by omega)];simp[d]
  rw[Ya];simp[f]
 rw[Ja e];exact((h m c).set (by omega) _).set (by omega) _
def wu{b:Array mA}{a:List nB}{i:Nat}(d:i<cB a)(h:∀m(c:m<cB a),lH b 0 m a[m])(x:vB):
 ∀m(c:m<cB a),lH (b.setIfInBounds (i*3+1) (tA x)) 0 m (if m=i then⟨a[i].N,x,a[i].Y⟩ else a[m]):=by grind [lH]
def ww{b:Array mA}{a:List nB}{i:Nat}(d:i<cB a)(h:∀m(c:m<cB a),lH b 0 m a[m])(s:Int):
 ∀m(c:m<cB a),lH (b.setIfInBounds (i*3+2) (dB s)) 0 m (if m=i then⟨a[i].N,a[i].data,s⟩ else a[m]):=by grind [lH]
def ZO(b o:Nat)(a:Array mA)(t:oA)(d:vB)(s:Int)(w:jA)(f:rB w b a t)(c:a[o+1]?=fA (tA d))(g:dC s 0 d.size=gA):
 gF 191 #[xA (fA (iB b o)),dB s] w (pY 6):=by
 have j:=f.cell (o+1);rw[c]at j;have i:fB _:=g;clear f c g;go_enter func191,ntmps191;go_wp2_with fail;apply oC (cO i.o _);rintro h rfl;go_wp2;go_ret;exact⟨rfl,jD⟩
def ii(b o:Nat)(c:Array mA)(t:oA)(d:vB)(s:Int)(w:jA)(j:rB w b c t)(k:c[o+1]?=fA (tA d))(p:o+2<c.size)(l:dC s 0 d.size=iA)(B:d.size<=1000000000):
 lA prog 191 #[xA (fA (iB b o)),dB s] w λe i=>e=zA (pY 0)/\uD b w i/\
  rB i b ((c.setIfInBounds (o+1) (tA (d.extract 0 s.toNat))).setIfInBounds (o+2) (dB s)) t:=by
 have z:=j.cell (o+1);rw[k]at z;have a:=j.free (o+1);have y:fB _:=l;have g:0<=s/\s<=d.size:=by simpa[dC]using l
 obtain⟨g,A⟩:=g;have n:fB (rB w b c t):=j;have r:fB _:=(Vb.1 k).1;have u:fB _:=p;clear j k l p;go_enter func191,ntmps191;go_wp2_with fail;apply oC (cO y.o _);rintro i rfl;go_wp2_with fail;refine oC (QC b o _ t (d.extract 0 s.toNat) _ (n.o.set (o+1) (tA (d.extract 0 s.toNat))) (by have:=r.o;simp[Eb];omega) (by have:=u.o;simp;omega)) ?_;intro m f;have v:fB (uD b i m):=by show uD b i m;rw[f];exact((uD.refl _ _).setCell _ _).setCell _ _
 have q:fB (((d.extract 0 s.toNat).size:Int)=s):=by show _=_;rw[Je];omega
 have x:fB (rB m b ((c.setIfInBounds (o+1) (tA (d.extract 0 s.toNat))).setIfInBounds (o+2) (dB s)) t):=by
  have h:=(n.o.set (o+1) (tA (d.extract 0 s.toNat))).set (o+2) (dB ((d.extract 0 s.toNat).size:Nat));show rB _ _ _ _;rw[f];rw[q.o]at h |-
  exact h
 clear f;go_wp2;go_ret;exact⟨rfl,v.o,x.o⟩
def oJ(w c:jA):Prop:=∀(b:Nat)(o:Obj),w.heap[b]?=fA o->(∀a t,o=aB a t (0,0)->t≠115/\t≠113)->c.heap[b]?=fA o
def CL{w:jA}{b:Nat}{o:Obj}(h:w.heap[b]?=fA o):b<w.1.size:=(Vb.1 h).1
def oJ.blk{w c:jA}(k:oJ w c){b:Nat}{a:Array mA}{t:oA}(h:rB w b a t)(d:t≠115)(f:t≠113):rB c b a t:=k b _ h λ_ _ e=>by cases e;exact⟨d,f⟩
def oJ.trans{a b c:jA}(h:oJ a b)(k:oJ b c):oJ a c:=λx o e d=>k x o (h x o e d) d
def oJ.of{w c:jA}(h:zB w c):oJ w c:=λb _ a _=>(h.block b (CL a)).trans a
def oJ.keeps{S:Nat->Prop}{w e:jA}(h:iE S w e)(f:∀k,S k->∃b t,rB w k b t/\(t=115\/t=113)):oJ w e:=λx o c i=>(h.block x (CL c) λj=>by
 obtain⟨d,n,g,a⟩:=f x j;obtain⟨l,m⟩:=i _ _ (Lc (c.symm.trans g));obtain a|a:=a;exact l a;exact m a).trans c
def oJ.set{w:jA}{g o:Nat}{a:Array mA}{t:oA}(b:rB w g a t)(c:t=115\/t=113)(v:mA):oJ w (w.setCell (iB g o) v):=
 oJ.keeps (S:=λk=>k=g) ((iE.refl (λk=>k=g) w).setCell (g:=g) rfl o v) (λk e=>⟨a,t,by rw[e];exact b,c⟩)
def PF{w:jA}{B:Nat}{v:mA}{n:Nat}{e:List mA}(h:w.ownsRow B 115 3 v n e):∀g,v.ownBlock=fA g->∃a,rB w g a 115:=by
 intro g b;obtain⟨rfl,_⟩|⟨f,c,a,rfl,_,d,_⟩:=h.2;simp[mA.ownBlock]at b;simp[mA.ownBlock]at b;subst b;exact⟨a,d⟩
structure wJ(B:Nat)(w w':World):Prop where
 below:Below B w w'
 other:oJ w w'
def wJ.trans{B:Nat}{a b c:jA}(h:wJ B a b)(k:wJ B b c):wJ B a c:=⟨h.below.trans k.below,h.other.trans k.other⟩
def wJ.of{B:Nat}{w a:jA}(h:zB w a)(b:B<=w.1.size):wJ B w a:=⟨h.mono b,oJ.of h⟩
def wJ.on{B:Nat}{a w b:jA}(h:wJ B a w)(k:zB w b)(c:B<=w.1.size):wJ B a b:=h.trans (wJ.of k c)
def wJ.set{B g o:Nat}{a w:jA}{b:Array mA}{t:oA}(h:wJ B a w)(c:rB w g b t)(e:t=115\/t=113)(d:B<=g)(v:mA):wJ B a (w.setCell (iB g o) v):=
 ⟨h.below.setCell (by show B<=g;exact d) _,h.other.trans (oJ.set c e v)⟩
def wJ.but{B g:Nat}{a w c:jA}{b:Array mA}{t:oA}(h:wJ B a w)(k:uD g w c)(f:rB w g b t)(l:t=115\/t=113)(i:B<=g)(d:B<=w.1.size):wJ B a c:=
 ⟨h.below.trans (k.below i d),h.other.trans (oJ.keeps (iE.but k) (λj e=>⟨b,t,by rw[e];exact f,l⟩))⟩
def wJ.charge{B D:Nat}{g:List nB}{c k d f:Int}{e:Bool}{v:mA}{w b:jA}{o:Obj}(h:bD w B D g c k d f e v)(i:B<=w.1.size)(a:uD D (w.alloc o) b):wJ B w b:=
 (wJ.of (uF w o) i).but a (h.z (uF w o)).blk (La rfl) h.from' (by simp;omega)
def bD.turn{w i:jA}{B D:Nat}{j a:List nB}{c k d f:Int}{e:Bool}{v b:mA}(h:bD w B D j c k d f e v)(m:rB i D #[dB k,dB d,dB f,vA e,b,dB c] 113)
(n:i.ownsRow B 115 3 b (cB a) (flat a))(l:∀g,b.ownBlock=fA g->g≠D):bD i B D a c k d f e b:=⟨h.from',m,n,l⟩
def BE{w:jA}{B:Nat}{e:oA}{a:Nat}{v:mA}{n:Nat}{j:List mA}(h:w.ownsRow B e a v n j){D:Nat}(m:∀g,v.ownBlock=fA g->g≠D)(o:Nat)(u:mA):(w.setCell (iB D o) u).ownsRow B e a v n j:=by
 obtain⟨k,d⟩:=h;refine⟨k,?_⟩;obtain d|⟨g,b,c,i,l,p,r⟩:=d;exact Ca d;have f:=m g (by rw[i];rfl);exact La ⟨g,b,c,i,l,(Below.heap_setCell w (iB D o) u g f).trans p,r⟩
def PG(B D i:Nat)(b:List nB)(c k n p:Int)(o:Bool)(v:mA)(w:jA)(h:bD w B D b c k n p o v)(x:i<cB b)(l:cB b<=1048576):
 lA prog 193 #[.pointer (cC D),dB i] w λe z=>
  e=zA (bB #[])/\∃y,bD z B D (b.eraseIdx i) c k n p o y/\y.ownBlock=v.ownBlock/\iE (λk=>k=D\/v.ownBlock=fA k) w z:=by
 obtain⟨g,f,rfl,q,H⟩:=h.slice (by omega);have J:=h.cell4;have m:fB _:=h;have I:IntKind.i64.wrap ((i:Int)+1)=(i:Int)+1:=by rw[IntKind.wrap_i64];omega
 clear h;go_enter func193,ntmps193;go_wp2_with fail;apply oC (jq B g f i b _ m.o.row x l);rintro u ⟨j,r⟩;have d:=m.o.blk.keeps r (λe=>q e.symm);have F:=d.cell 4;have a:=d.free 4;simp only[Xb,Ob,Ga]at F;have E:fB (u.ownsRow B 115 3 (uA (cC g) (cB b-1) f) (cB b-1) (flat (b.eraseIdx i))):=j;have C:fB _:=r;have A:fB (rB u D #[dB k,dB n,dB p,vA o,uA (cC g) (cB b) f,dB c] 113):=d;clear j r d;go_wp2;go_end0;refine⟨rfl,uA (cC g) (cB b-1) f,m.o.turn ?_ ?_ (λG e=>by simp[mA.ownBlock]at e;omega),rfl,?_⟩
 .have:=A.o.set 4 (uA (cC g) (cB b-1) f);simpa using this
 .have e:cB (b.eraseIdx i)=cB b-1:=by rw[Ad,Ma x]
  rw[e];exact BE E.o (λG e=>by simp[mA.ownBlock]at e;omega) _ _
 have s:iE (λt=>t=D\/(mA.slice (cC g) (cB b) f).ownBlock=fA t) w u:=C.o.mono (λt e=>La (by subst e;rfl));exact s.setCell (Ca rfl) _ _
def VY(B D i:Nat)(a:List nB)(c k o q:Int)(p:Bool)(v:mA)(x:vB)(w:jA)(h:bD w B D a c k o q p v)(I:i<cB a)(M:cB a<=1048576)(N:(tC a:Int)<=c)(m:c<=1000000000):
 lA prog 190 #[.pointer (cC D),dB i,tA x] w λe u=>
  ((c<tC a+x.size/\e=zA (pY 3)/\bD u B D a c k o q p v)\/(tC a+x.size<=c/\e=zA (pY 0)/\bD u B D (a.set i ⟨a[i].N,a[i].data++x,a[i].Y⟩) c k o q p v))/\wJ B w u:=by
 obtain⟨g,n,rfl,V,S⟩:=h.slice (by omega);obtain⟨Z,J,F,l⟩:=h.files;have K:=mC.cells h.cell4;have L:=mC.cells h.cell5;have s:=mC.there w;have A:fB _:=h;have P:fB (wB w (cC g) a):=by
  simp only[mA.slice.injEq]at F;obtain⟨rfl,_⟩:=F;exact l
 have Y:IntKind.i64.wrap (c-(tC a:Int))=c-(tC a:Int):=by rw[IntKind.wrap_i64];omega
 have j:fB (∀x:mC w,wB x.w' (cC g) a):=λx=>P.o.z x.h;have f:fB (∀x:mC w,bD x.w' B D a c k o q p (uA (cC g) (cB a) n)):=λx=>A.o.z x.h;have r:cB a<=maxLen:=by simp[maxLen];omega
 have t:tC a<=1000000000:=by omega
 clear h F l;by_cases h:c-(tC a:Int)<(x.size:Int)
 .go_enter func190,ntmps190;go_wp2_with fail;refine bC (by kernel_rfl) (by kernel_rfl) ?_;repeat (go_big_quiet_step (first|(go_at_call 78;exact rC (yJ _ _ _ _ (j.o _) r t))))
  refine wpQuiet_nil ?_;rintro _ ⟨y,rfl⟩;have C:fB _:=y.h;have z:fB _:=f.o y;have G:=A.o.size;clear K L s f j;generalize y.w'=W at *;clear y;go_wp2;go_ret;exact⟨Ca ⟨by omega,rfl,z.o⟩,wJ.of C.o G⟩
 go_enter func190,ntmps190;go_wp2_with fail;refine bC (by kernel_rfl) (by kernel_rfl) ?_;repeat (go_big_quiet_step (first|(go_at_call 78;exact rC (yJ _ _ _ _ (j.o _) r t))))
 refine wpQuiet_nil ?_;rintro _ ⟨y,rfl⟩;have C:fB _:=y.h;have z:fB _:=f.o y;have G:=A.o.size;have h:=(f.o y).cell4;clear K L s f j;generalize y.w'=W at *;clear y;obtain⟨E,_,d,X,T,H,b⟩:=aK z.o.row;have m:=(b i I).2.1;rw[Ya]at m;have U:a[i].data.size<=tC a:=by
  have h:=jI a i I;have h:=wH a (i+1);omega
 have R:fB (lA prog 248 #[xA (fA (iB g (i*3))),tA x] W λe u=>e=zA (bB #[])/\u=W.setCell (iB g (i*3+1)) (tA (a[i].data++x))):=ya g (i*3) E 115 a[i].data x W d m (by omega);have Q:fB (bD (W.setCell (iB g (i*3+1)) (tA (a[i].data++x))) B D (a.set i ⟨a[i].N,a[i].data++x,a[i].Y⟩) c k o q p (uA (cC g) (cB a) n)):=
  z.o.put ((uD.refl _ _).setCell _ _) (d.set _ _) (by simp[H]) (wu I b _)
 have O:fB (wJ B w (W.setCell (iB g (i*3+1)) (tA (a[i].data++x)))):=(wJ.of C.o G).set d (Ca rfl) (by omega) _;clear d b m;go_wp2_with fail;apply oC R.o;rintro h rfl;go_wp2;go_ret;exact⟨La ⟨by omega,rfl,Q.o⟩,O.o⟩
def wJ.removed{w d:jA}{B D:Nat}{l:List nB}{c k f j:Int}{i:Bool}{v:mA}(h:bD w B D l c k f j i v)(b:iE (λk=>k=D\/v.ownBlock=fA k) w d):wJ B w d:=
 ⟨b.below (λg e=>by
  obtain e|e:=e
  .rw[e];exact h.from'
  .exact qI h.row g e) h.size,oJ.keeps b (λg e=>by
  obtain e|e:=e;rw[e];exact⟨_,_,h.blk,La rfl⟩;obtain ⟨a,m⟩:=PF h.row g e;exact⟨a,_,m,Ca rfl⟩)⟩
def bD.inserted{w l:jA}{B D i:Nat}{d:List nB}{f:nB}{c k p r:Int}{q:Bool}{v a:mA}(h:bD w B D d c k p r q v)(x:i<=cB d)
(y:l.ownsRow B 115 3 a (cB d+1) (flat (iM d i f)))(o:iE (λk=>v.ownBlock=fA k) w l)(n:a.ownBlock=v.ownBlock\/a.ownBlock=fA w.1.size):
 bD (l.setCell (iB D 4) a) B D (iM d i f) c k p r q a/\wJ B w (l.setCell (iB D 4) a):=by
 have z:=eB h.blk;have j:∀g,a.ownBlock=fA g->g≠D:=λg b=>by
  obtain e|e:=n;exact h.apart g (by rw[<-e];exact b);rw[e]at b;simp at b;omega
 have s:=h.blk.keeps o (λe=>h.apart D e rfl);refine⟨⟨h.from',?_,?_,j⟩,?_⟩;have:=s.set 4 a;simpa using this;rw[xN d i f x];exact BE y j _ _;have t:wJ B w l:=⟨o.below (λg b=>qI h.row g b) h.size,oJ.keeps o (λg b=>by
  obtain⟨m,u⟩:=PF h.row g b;exact⟨m,_,u,Ca rfl⟩)⟩
 exact t.set s (La rfl) h.from' _
def jo(B D:Nat)(d:List nB)(c k A E:Int)(C:Bool)(v:mA)(m:vB)(w:jA)(h:bD w B D d c k A E C v)(n:mT d)(r:cB d<=1048576):
 lA prog 189 #[.pointer (cC D),tA m] w λe G=>∃i F,oT d m i/\wJ B w G/\
  ((tH d m i=iA/\e=zA (pY 5)/\bD G B D d c k A E C F)\/(tH d m i=gA/\1000<=cB d/\e=zA (pY 3)/\bD G B D d c k A E C F)\/
    (tH d m i=gA/\cB d<1000/\e=zA (pY 0)/\bD G B D (iM d i ⟨m,pA,0⟩) c k A E C F)):=by
 obtain⟨a,u,rfl,p⟩:=h.files;have R:=h.cell4;have K:fB _:=h;have O:fB (wB w a d):=p;have N:fB (mT d):=n;clear h p n;go_enter func189,ntmps189;go_wp2_with fail;refine(lW a u d m _ O.o N.o r).mono ?_;rintro e M ⟨i,J,rfl,t⟩;have H:fB (oT d m i):=J;have q:=J.1;have f:fB _:=K.o.z t;have s:fB _:=wJ.of t K.o.size;have S:=f.o.cell4;clear R t J;cases hq:tH d m i with
 |true=>
  have z:fB _:=hq;clear hq;go_wp2;go_ret;exact⟨i,_,H.o,s.o,Ca ⟨z.o,rfl,f.o⟩⟩
 |false=>
  have z:fB _:=hq;clear hq;by_cases V:(1000:Int)<=(cB d:Int)
  .go_wp2;go_ret;exact⟨i,_,H.o,s.o,La (Ca ⟨z.o,by omega,rfl,f.o⟩)⟩
  go_wp2_with fail;have g:=f.o.z (uF M (aB #[tA m,tA pA,dB 0] 115));refine(OI B M.1.size i (uA a (cB d) u) d ⟨m,pA,0⟩ _ g.row (heap_alloc_new _ _) (λe=>by have:=aH f.o.row _ e;omega) q r g.size).mono ?_;rintro e W ⟨F,rfl,l,I,x⟩;obtain⟨y,o⟩:=g.inserted q l I x;have j:=g.blk.keeps I (λe=>g.apart D e rfl);obtain⟨U,L,rfl⟩:=kZ l;have T:=j.cell 4;have b:=j.free 4;simp only[Xb,Ob,Ga]at T;have P:fB _:=y;have Q:fB _:=(s.o.on aC f.o.size).trans o;clear y o j l I x g S;go_wp2;go_ret;exact⟨i,_,H.o,Q.o,La (La ⟨z.o,by omega,rfl,P.o⟩)⟩
def wy{a:Array mA}{b:List nB}{i:Nat}(d:i<cB b)(h:∀m(c:m<cB b),lH a 0 m b[m])(f:nB):
 ∀m(c:m<cB b),lH (((a.setIfInBounds (i*3) (tA f.N)).setIfInBounds (i*3+1) (tA f.data)).setIfInBounds (i*3+2) (dB f.Y)) 0 m (if m=i then f else b[m]):=by grind [lH]
def mx(B D i:Nat)(b:List nB)(c k H J:Int)(I:Bool)(v:mA)(m:vB)(w:jA)(h:bD w B D b c k H J I v)(hi:i<cB b)(y:mT (b.eraseIdx i))(V:cB b<=1048576):
 lA prog 192 #[xA (fA ⟨D,0,eA⟩),.int sA i,tA m] w λe w'=>e=zA (bB #[])/\∃j v',oT (b.eraseIdx i) m j/\wJ B w w'/\
  ((tH (b.eraseIdx i) m j=iA/\bD w' B D ((b.eraseIdx i).set j ⟨m,b[i].data,b[i].Y⟩) c k H J I v')\/(tH (b.eraseIdx i) m j=gA/\bD w' B D (iM (b.eraseIdx i) j ⟨m,b[i].data,b[i].Y⟩) c k H J I v')):=by
 obtain⟨g,cap,rfl,hgD,hBg⟩:=h.slice (by omega);obtain⟨cur,_,a,hnc,hcm,hcs,f⟩:=aK h.row;obtain⟨r0,r1,r2⟩:=f i hi;rw[Ya]at r0 r1 r2;have c0:=a.cell (i*3);have c1:=a.cell (i*3+1);have c2:=a.cell (i*3+2);rw[r0]at c0;rw[r1]at c1;rw[r2]at c2;have d4:=h.cell4;have Z:fB _:=h;have HA:fB (mT (b.eraseIdx i)):=y;have hgl:=eB a;have hDl:=eB h.blk;clear h y a f r0 r1 r2;go_enter func192,ntmps192;go_wp2_with fail;apply oC (PG B D i b c k H J I _ _ (Z.o.z (uF w (aB #[tA m,tA b[i].data,.int sA b[i].Y] 115))) hi V);rintro w1 ⟨v1,p,W,hk⟩;have N:fB (rB w1 w.1.size #[tA m,tA b[i].data,.int sA b[i].Y] 115):=rB.keeps (heap_alloc_new _ _) hk (λe=>by
  obtain e|e:=e;omega;simp[mA.ownBlock]at e;omega)
 have L:fB _:=(wJ.of aC Z.o.size).trans (wJ.removed (Z.o.z aC) hk);have U:cB (b.eraseIdx i)<=1048576:=by rw[Ad,Ma hi];omega
 have X:v1.ownBlock=fA g:=W;obtain⟨G,l,rfl,z⟩:=p.files;have P:fB _:=X;have E:fB _:=p;have O:fB (wB w1 G (b.eraseIdx i)):=z;have e4:=p.cell4;clear c0 c1 c2 d4 p hk z W X;generalize T:b.eraseIdx i=o at *;go_wp2_with fail;refine(lW G l o m _ O.o HA.o U).mono ?_;rintro e K ⟨j,hp,rfl,t⟩;have HP:fB (oT o m j):=hp;have A:=hp.1;have d:fB _:=E.o.z t;have M:fB _:=L.o.on t E.o.size;have r:fB (rB K w.1.size #[tA m,tA b[i].data,.int sA b[i].Y] 115):=N.o.z t;have g4:=d.o.cell4;have x0:=r.o.cell 0;have x1:=r.o.cell 1;have x2:=r.o.cell 2;simp only[Xb,Ob,Ga]at x0 x1 x2;clear e4 t hp O E L N;cases hq:tH o m j with
 |true=>
  have HQ:fB _:=hq;have hjl:j<cB o:=by
   rcases Gc j (cB o) with h|h;exact h;rw[tH,Fd h]at hq;exact absurd hq (by simp)
  obtain⟨s,cap',ev,_,_⟩:=d.o.slice (by omega);obtain rfl:s=g:=by have:=P.o;rw[ev]at this;simpa[mA.ownBlock]using this
  simp only[mA.slice.injEq]at ev;obtain⟨rfl,_,rfl⟩:=ev;obtain⟨Q,_,a,hnc2,hcm2,S,f⟩:=aK d.o.row;have hsz2:j*3+2<Q.size:=by omega
  obtain⟨y0,z0⟩:=a.there (j:=j*3) (by omega);obtain⟨y1,z1⟩:=a.there (j:=j*3+1) (by omega);obtain⟨y2,z2⟩:=a.there (j:=j*3+2) (by omega);have k0:=a.free (j*3);have k1:=a.free (j*3+1);have k2:=a.free (j*3+2);have n:uD s K (((K.setCell ⟨s,j*3,eA⟩ (tA m)).setCell ⟨s,j*3+1,eA⟩ (tA b[i].data)).setCell ⟨s,j*3+2,eA⟩ (.int sA b[i].Y)):=(((uD.refl _ _).setCell _ _).setCell _ _).setCell _ _;have u:fB (bD (((K.setCell ⟨s,j*3,eA⟩ (tA m)).setCell ⟨s,j*3+1,eA⟩ (tA b[i].data)).setCell ⟨s,j*3+2,eA⟩ (.int sA b[i].Y)) B D (o.set j ⟨m,b[i].data,b[i].Y⟩) c k H J I (uA (fA ⟨s,0,eA⟩) (cB o) l)):=
   d.o.put n (((a.set (j*3) (tA m)).set (j*3+1) (tA b[i].data)).set (j*3+2) (.int sA b[i].Y)) (by simp[S]) (wy hjl f ⟨m,b[i].data,b[i].Y⟩)
  have Y:fB _:=M.o.but n a (Ca rfl) hBg d.o.size;clear hq a f n;go_wp2_with fail;go_region
  go_wp2;refine bodyPost_ret (results_none rfl _ _ _) rfl ?_;subst T;exact⟨rfl,j,_,HP.o,Y.o.on jD.drew u.o.size,Ca ⟨HQ.o,u.o.z jD.drew⟩⟩
 |false=>
  have HQ:fB _:=hq;have x:(mA.slice G (cB o) l).ownBlock≠fA D:=λe=>d.o.apart D e rfl;have hap3:(mA.slice G (cB o) l).ownBlock≠fA w.1.size:=λe=>by rw[P.o]at e;simp at e;omega
  have q:fB (bD (K.drew.alloc (aB #[tA m,tA b[i].data,.int sA b[i].Y] 115)) B D o c k H J I (uA G (cB o) l)):=(d.o.z jD.drew).z aC;clear hq;go_wp2_with fail;have hDl2:=eB d.o.blk;have hFl2:=eB r.o;go_region_with (go_at_call 247;refine(OI B K.1.size j (uA G (cB o) l) o ⟨m,b[i].data,b[i].Y⟩ _ q.o.row (heap_alloc_new _ _) (λe=>by have:=aH d.o.row _ e;omega) A U q.o.size).mono ?_;rintro e w7 ⟨v',rfl,C,F,hat⟩;obtain⟨a7,cap7,rfl⟩:=kZ C;have q4:=(q.o.blk.keeps F x).cell 4;have q5:=(q.o.blk.keeps F x).free 4;simp only[Xb,Ob,Ga]at q4)
  all_goals(
   go_wp2
   go_end0
   subst T;obtain⟨p,R⟩:=q.o.inserted A C F hat;exact⟨rfl,j,_,HP.o,((M.o.on jD.drew d.o.size).on aC d.o.size).trans R,La ⟨HQ.o,p⟩⟩)
