import Derived.Test.YtiegonaogehghaaGreatDoorJ10
import Derived.Lib.AppendZerosOnto
set_option maxRecDepth 100000
set_option maxHeartbeats 4000000
set_option linter.defProp false
open Bool renaming true->dA,false->cA
open Option renaming some->bA,none->aA
open ByteArray renaming empty->kA
open List renaming length->yA
namespace Go.Proofs.YtiegonaogehghaaGreatDoor
open Go renaming TypeId->jA,Value->iA,World->eA,Calls->gA
open Value renaming bool->qA,slice->pA,tuple->xA,string->oA,pointer->sA
open Ending renaming returned->uA
open Obj renaming cells->vA
open IntKind renaming i64->mA
open Go.RowKit Tryz
def iD(k a b:Int)(c:Bool):Nat×Int×Bool:=
 if c=dA then(1,k,dA) else if k=1000000000000000 then(2,k,cA) else if a≠0/\k+1=a then(1,k+1,dA) else if b≠0/\k+1=b then(2,k+1,cA) else(0,k+1,cA)
def dW(D:Nat)(t:jA)(o p:iA)(k b c:Int)(g:Bool)(w:eA)(i:gB w D #[zA k,zA b,zA c,qA g,o,p] t)(C:0<=k)(F:k<=1000000000000000):
 gA prog 185 #[.pointer (pB D)] w λe s=>e=uA (eH (iD k b c g).1)/\pD D w s/\gB s D #[zA (iD k b c g).2.1,zA b,zA c,qA (iD k b c g).2.2,o,p] t:=by
 have v:=i.cell 0;have x:=i.cell 3;simp only[Xb,Ob,Ga]at v x;have a:=i.free 0;have n:(g=dA/\iD k b c g=(1,k,dA)\/(g=cA/\k=1000000000000000)/\iD k b c g=(2,k,cA))\/g=cA/\¬k=1000000000000000:=by
  cases g<;>by_cases h:k=1000000000000000<;>simp[iD,h]
 rcases n with(⟨rfl,E⟩|⟨⟨rfl,rfl⟩,E⟩)|⟨rfl,M⟩
 iterate 2
  .have E:=cB E
   have u:=cB i;clear i
   go_enter func185,ntmps185
   go_wp2
   go_ret
   rw[E.o];exact⟨rfl,pD.refl _ _,u.o⟩
 have j:=i.set 0 (zA (k+1));have d:bB (gB (w.setCell (dB D 0) (zA (k+1))) D #[zA (k+1),zA b,zA c,qA cA,o,p] t):=by show gB _ _ _ _;simpa using j
 clear i j;have y:=d.o.cell 0;have z:=d.o.cell 1;have A:=d.o.cell 2;have B:=d.o.cell 3;simp only[Xb,Ob,Ga]at y z A B;have H:=d.o.free 3;have f:=cB ((pD.refl D w).setCell 0 (zA (k+1)));have G:IntKind.i64.wrap (k+1)=k+1:=by rw[IntKind.wrap_i64];omega
 have n:(¬b=0/\k+1=b)/\iD k b c cA=(1,k+1,dA)\/(b=0\/¬b=0/\¬k+1=b)/\((¬c=0/\k+1=c)/\iD k b c cA=(2,k+1,cA)\/(c=0\/¬c=0/\¬k+1=c)/\iD k b c cA=(0,k+1,cA)):=by
  by_cases l:b=0<;>by_cases q:k+1=b<;>by_cases m:c=0<;>by_cases r:k+1=c<;>simp_all[iD]
 obtain⟨⟨l,rfl⟩,E⟩|⟨rfl|⟨l,q⟩,⟨⟨m,rfl⟩,E⟩|⟨rfl|⟨m,r⟩,E⟩⟩:=n
 all_goals
  have E:=cB E;try have I:=Ub l
  try have J:=beq_false_of_ne q
  try have K:=Ub m
  try have L:=beq_false_of_ne r
  go_enter func185,ntmps185;go_wp2_with fail;go_quiet (fail)
  go_wp2_with fail;try (go_quiet (fail);go_wp2)
  go_ret;rw[E.o];first
   |exact⟨rfl,f.o.trans (pD.of (below_drewN (below_drewN bD _) _)),d.o.z (below_drewN (below_drewN bD _) _)⟩
   |exact⟨rfl,f.o.trans (pD.of (below_drewN bD _)),d.o.z (below_drewN bD _)⟩
   |exact⟨rfl,(f.o.trans (pD.of (below_drewN bD _))).setCell _ _,by simpa using (d.o.z (below_drewN bD nq)).set 3 (qA dA)⟩
def mm(B g b i:Nat)(l:List jB)(w:eA)(y:w.ownsRow B 151 3 (pA (pB g) (yA l) b) (yA l) (flat l))(X:i<yA l)(Y:yA l<=1048576):
 gA prog 236 #[pA (pB g) (yA l) b,zA i,zA ((i:Int)+1)] w λe w'=>
  e=uA (pA (pB g) (yA l-1) b)/\w'.ownsRow B 151 3 (pA (pB g) (yA l-1) b) (yA l-1) (flat (l.eraseIdx i))/\bE (λk=>k=g) w w':=by
 obtain⟨K,G,_,r,h,E,C,t⟩:=oR y;obtain⟨Z,F,Q,R,h⟩:=nL;obtain⟨n,H⟩:∃n,yA l=n:=⟨_,rfl⟩
 obtain⟨a,d⟩:∃a,a=flat (l.drop (i+1)):=⟨_,rfl⟩
 have f:yA a=(n-(i+1))*3:=by rw[d,tE,Rc,H]
 have L:yA (flat l)=n*3:=by rw[tE,H]
 have m:∀j,j<n*3->(w.cell? (dB g j)).isSome=dA:=λj M=>by rw[t j _ (Va (by omega))];rfl
 obtain⟨A,h,J⟩:∃A:Addr,(if b=i+1 then bA ((dB g 0):Addr) else bA (dB g ((i+1)*3)))=bA A/\bB (∀j u,a[j]?=bA u->w.drew.cell? (A.add j)=bA u):=by
  by_cases h:b=i+1
  .refine ⟨(dB g 0),by simp[h],λj u o=>?_⟩;have I:yA a=0:=by rw[f];omega
   rw[Nb.1 I]at o;simp at o
  refine ⟨(dB g ((i+1)*3)),by simp[h],λj u o=>?_⟩;rw[d,nU l (i+1) j (by omega)]at o;rw[Addr.add_lit];exact t _ _ o
 have Y:bB _:=f;have s2:bB (∀u∈a,u.oneCell'=dA):=by rw[d];exact pG _
 have h:bB (∀j,j<yA a->(w.drew.cell? (dB g (0+i*3+j))).isSome=dA/\w.drew.frozen? (dB g (0+i*3+j))=cA):=by
  intro j M;rw[f]at M;exact⟨m _ (by omega),r.free _⟩
 obtain⟨x,p⟩:∃x,x=w.drew.setCells g (0+i*3) a:=⟨_,rfl⟩
 have s:gB w.drew g K 151:=r;obtain⟨U,q,z⟩:=gB.setCells a (0+i*3) s;rw[<-p]at q;have I:∀T c,(Builtin.clear_ #[33] T #[.slice (bA (dB g ((n-1)*3))) 1 c]).run prog x=.ok (xA #[]) (x.setCells g ((n-1)*3) lZ):=λT c=>
  SD x _ T _ Z underlying33 F Q g _ c (λj M=>by obtain⟨v,I⟩:=q.there (j:=(n-1)*3+j) (by rw[z,C];omega);rw[I];rfl) (λj _=>q.free _)
 obtain⟨V,D,I⟩:=gB.setCells lZ ((n-1)*3) q;have U:bB (bE (λk=>k=g) w (x.setCells g ((n-1)*3) lZ)):=by
  show bE _ _ _;rw[p];exact bE.setCells (S:=λk=>k=g) rfl _ _ (bE.setCells (S:=λk=>k=g) rfl _ _ (bE.refl _ _).drew)
 have HO:bB ((x.setCells g ((n-1)*3) lZ).ownsRow B 151 3 (pA (pB g) (n-1) b) (n-1) (flat (l.eraseIdx i))):=by
  refine sR G D (by omega) E (by rw[I,z,C]) (by rw[tE,Ad,Ma X,H]) λj u o=>?_;have O:=(Pb.1 o).1;rw[tE,Ad,Ma X,H]at O;rw[eA.cell?_setCells_out g lZ ((n-1)*3) x _ (λ_ _=>Ca (by show j<_;omega)),p];rw[mw]at o;have P:yA (flat (l.take i))=i*3:=by rw[tE,Hb];omega
  by_cases N:j<i*3
  .rw[eA.cell?_setCells_out g a (0+i*3) _ _ (λ_ _=>Ca (by show j<_;omega))];rw[Pe (by omega),iQ l i j (by omega) N]at o;exact t j u o
  rw[Uc (by omega),P,<-d]at o;have G:=eA.cell?_setCells_in g a (0+i*3) w.drew (λk O=>(h.o k O).1) (j-i*3) (by omega);rw[show 0+i*3+(j-i*3)=j by omega]at G;rw[G,<-o,Va]
 have o:i<=b:=by omega
 have o:(0:Int)<=(i:Int)+1:=by omega
 have o:(i:Int)+1<=(n:Int):=by omega
 have o:((i:Int)+1).toNat=i+1:=by omega
 have o:¬((i:Int)=(i:Int)+1):=by omega
 have W:(b:Int)<=9223372036854775807:=by unfold maxLen at E;omega
 have o:i+(n-(i+1))=n-1:=by omega
 have o:n-(n-1)=1:=by omega
 have o:bB _:=p;rw[H];clear p y r s q D t m d L f z I C;go_enter func236,ntmps236;go_wp2_with fail;go_region_law (refine step_append_room rfl (.tmp 22) (.tmp 25) 33 rfl 151 Z 3 underlying33 F R g 0 i b (by simp[Act.eval,Act.put]) A (n-(i+1)) (b-(i+1)) a (by simp[Act.eval,Act.put]) Y.o J.o s2.o (by omega) h.o ?_;rw[<-o.o])
 go_wp2;go_ret;exact⟨rfl,HO.o,U.o⟩
def fc(B g a i J:Nat)(c:List jB)(f:jB)(w:eA)(R:w.ownsRow B 151 3 (pA (pB g) (yA c) a) (yA c) (flat c))(F:DL w J f)(m:i<yA c)(C:a<yA c+1)(G:yA c<=1048576)(hBs:B<=w.1.size):
 gA prog 234 #[pA (pB g) (yA c) a,zA i,pA (pB J) 1 1] w λe w'=>
  ∃L,e=uA (pA (pB w.1.size) (yA c+1) L)/\w'.ownsRow B 151 3 (pA (pB w.1.size) (yA c+1) L) (yA c+1) (flat (dM c i f))/\tB w w':=by
 obtain⟨U,h,_,r,h,b0,hsz,V⟩:=oR R;obtain⟨O,Y,l0,o,Z⟩:=nL;obtain⟨n,hn⟩:∃n,yA c=n:=⟨_,rfl⟩
 rw[hn]at m C G h |-
 have m:(prog.info? 151).map (·.size)=bA 3:=by rw[Y];simp[o]
 have hgw:=aB r;have g0:(n:Int)+1-(i:Int)=((n+1-i:Nat):Int):=by omega
 have W:i+(n+1-i)=n+1:=by omega
 have K:yA (flat (c.take i))=i*3:=by rw[tE,Hb];omega
 have Q:(Builtin.firstCells O.size i (pA (pB g) i a)).run prog w.drew=.ok (flat (c.take i)).toArray w.drew:=by
  rw[o];exact run_firstCells_some w.drew 3 i (dB g 0) i a (flat (c.take i)) K (λj v d=>by
   rw[Addr.add_lit,Ya];have h:=(Pb.1 d).1;rw[iQ c i j (by omega) (by omega)]at d;exact V j v d)
 obtain⟨G,hG⟩:∃G,G=grownCap w (n+1) a 151:=⟨_,rfl⟩
 obtain⟨z,q⟩:∃z:Array iA,z=(flat (c.take i)).toArray++Builtin.zeroCells (iA.agg #[oA kA,oA kA,zA 0]).cells (n+1-i)++Builtin.zeroCells (iA.agg #[oA kA,oA kA,zA 0]).cells (G-(n+1)):=⟨_,rfl⟩
 obtain⟨o,I⟩:∃o,o=w.drew.alloc (vA z 151):=⟨_,rfl⟩
 have hrz:∀E,(Builtin.append_ #[33,3] E #[pA (pB g) i a,zA ((n:Int)+1-(i:Int))]).run prog w=.ok (pA (pB w.1.size) (n+1) G) o:=λE=>by
  have h:=Lib.run_append_grow_zeros w 33 3 E 151 O _ .i64 mA underlying33 underlying3 Y l0 (pB g) i a _ Q (n+1-i) (by omega) (by omega) (by omega) (by omega) (by rw[Z];omega) (by rw[Z,W];exact growslice_fits C (by omega));rw[W,<-hG,<-q,<-I]at h;rw[g0];exact h
 have h:n+1<=G:=by rw[hG];exact grownCap_ge w _ _ _
 have a0:G<=maxLen:=by rw[hG];exact grownCap_le_maxLen w (n+1) a 151 (by unfold maxLen;omega)
 have O:(iA.agg #[oA kA,oA kA,zA 0]).cells.size=3:=rfl;have s:z.size=G*3:=by
  rw[q];simp only[Array.size_append,List.size_toArray,size_zeroCells,O,K];omega
 have x:gB o w.1.size z 151:=by rw[I];exact heap_alloc_new w.drew _
 have b:tB w o:=by rw[I];exact vB bD.drew yB
 have k0:DL o J f:=gB.z F b;have c0:=r.z b;have M:∀E T,(Builtin.copy_ #[33,33] E #[.slice (bA (dB w.1.size (i*3))) (n+1-i) T,pA (pB J) 1 1]).run prog o=.ok (goInt 1) (o.setCells w.1.size (i*3) (flat [f])):=λE T=>
  jQ o _ _ E 151 w.1.size (i*3) (n+1-i) T (dB J 0) 1 1 1 3 (flat [f]) underlying33 m (by simp only[Nat.min_def];split<;>omega) rfl
   (λj v d=>by rw[Addr.add_lit,Ya];exact k0.cells j v d)
   (λj d=>by obtain⟨v,F⟩:=x.there (j:=i*3+j) (by rw[s];simp[flat]at d;omega);rw[F];rfl) (λj d=>x.free _) (pG _)
 obtain⟨p,t⟩:∃p,p=o.setCells w.1.size (i*3) (flat [f]):=⟨_,rfl⟩
 rw[<-t]at M;obtain⟨Z,y,J⟩:=gB.setCells (flat [f]) (i*3) x;rw[<-t]at y;have X:bE (λk=>k=w.1.size) o p:=by rw[t];exact bE.setCells (S:=λk=>k=w.1.size) rfl _ _ (bE.refl _ _)
 have d0:=c0.keeps X (by omega);obtain⟨H,A⟩:∃H,H=flat (c.drop i):=⟨_,rfl⟩
 have P:yA H=(n-i)*3:=by rw[A,tE,Rc,hn]
 have O:∀j u,(flat c)[j]?=bA u->U[j]?=bA u:=λj u D=>by rw[<-r.cell];exact V j u D
 have N:∀E T U,(Builtin.copy_ #[33,33] E #[.slice (bA (dB w.1.size ((i+1)*3))) (n-i) T,.slice (bA (dB g (i*3))) (n-i) U]).run prog p.drew=.ok (goInt ((n-i:Nat):Int)) (p.drew.setCells w.1.size ((i+1)*3) H):=λE T U=>
  jQ p.drew _ _ E 151 w.1.size ((i+1)*3) (n-i) T (dB g (i*3)) (n-i) U (n-i) 3 H underlying33 m (by simp only[Nat.min_def];split<;>omega) P
   (λj v d=>by
    rw[Addr.add_lit];show p.cell? _=_;rw[d0.cell];exact O _ v (by rwa [A,nU c i j (by omega)]at d))
   (λj d=>by obtain⟨v,F⟩:=y.there (j:=(i+1)*3+j) (by rw[J,s];omega);show(p.cell? _).isSome=dA;rw[F];rfl) (λj d=>y.free _) (by rw[A];exact pG _)
 obtain⟨Y,l⟩:∃Y,Y=p.drew.setCells w.1.size ((i+1)*3) H:=⟨_,rfl⟩
 rw[<-l]at N;obtain⟨U,U,j0⟩:=gB.setCells H ((i+1)*3) (show gB p.drew w.1.size Z 151 from y);rw[<-l]at U;have Z:bB (tB w Y):=by
  have k3:bE (λk=>k=w.1.size) o Y:=by rw[l];exact bE.setCells (S:=λk=>k=w.1.size) rfl _ _ X.drew
  exact b.trans (k3.below (λk e=>by omega) b.size)
 have HO:bB (Y.ownsRow B 151 3 (pA (pB w.1.size) (n+1) G) (n+1) (flat (dM c i f))):=by
  refine sR hBs U h a0 (by rw[j0,J,s]) (by rw[tE,sQ _ _ _ (by omega),hn]) (UT hn (by omega) ?_ ?_ ?_);intro j u d D;rw[l,eA.cell?_setCells_out w.1.size H ((i+1)*3) _ _ (λ_ _=>Ca (by show j<_;omega))];show p.cell? _=_;rw[t,eA.cell?_setCells_out w.1.size (flat [f]) (i*3) o _ (λ_ _=>Ca d),x.cell,q];rw[<-iQ c i j (by omega) d]at D;rw[Array.append_assoc,Array.getElem?_append_left (by simp[K];omega)];simpa using D;intro j u D;have d:=(Pb.1 D).1;have h:j<3:=d;rw[l,eA.cell?_setCells_out w.1.size H ((i+1)*3) _ _ (λ_ _=>Ca (by show i*3+j<_;omega))];show p.cell? _=_;rw[t,eA.cell?_setCells_in w.1.size (flat [f]) (i*3) o (λk h=>by obtain⟨v,F⟩:=x.there (j:=i*3+k) (by rw[s];simp[flat]at h;omega);rw[F];rfl) j d,<-D,Va];intro j u D;rw[<-A]at D;have d:=(Pb.1 D).1;rw[l,eA.cell?_setCells_in w.1.size H ((i+1)*3) p.drew (λk h=>by obtain⟨v,F⟩:=y.there (j:=(i+1)*3+k) (by rw[J,s];omega);show(p.cell? _).isSome=dA;rw[F];rfl) j d,<-D,Va]
 have h:(a:Int)<(n:Int)+1:=by omega
 have h:IntKind.i64.wrap ((i:Int)+1)=(i:Int)+1:=by rw[IntKind.wrap_i64];omega
 have h:(0:Int)<=(i:Int)+1:=by omega
 have h:i<=n:=by omega
 have h:((i:Int)+1).toNat=i+1:=by omega
 have h:(i:Int)<=(n:Int)+1:=by omega
 have h:(i:Int)+1<=(n:Int)+1:=by omega
 have h:¬(G=i):=by omega
 have h:¬(G=i+1):=by omega
 have h:¬(a=i):=by omega
 have h:(i:Int)<=(a:Int):=by omega
 have h:(a:Int)<=9223372036854775807:=by unfold maxLen at b0;omega
 clear R r V O F k0 hsz J j0 A P I t l l0 m b0 x y U c0 d0 X b s q hG a0 Q g0 W K hgw;go_enter func234,ntmps234;go_wp2_with(first
  |(at_builtin;refine Lib.wpList_append_run _ rfl _ _ _ _ rfl _ _ rfl rfl _ _ (hrz _) ?_)
  |(at_builtin;refine wpList_copy_runI _ rfl _ _ 33 33 rfl _ _ rfl rfl (M _ _) ?_))
 go_region_law (refine step_copy_runI rfl _ _ 33 33 rfl _ _ (by simp[Act.eval,Act.put]) (by simp[Act.eval,Act.put]) (N _ _ _) ?_)
 go_wp2;go_ret;exact⟨G,rfl,HO.o,Z.o⟩
def nw(B t:Nat)(v:iA)(a:List jB)(f:jB)(w:eA)(d:w.ownsRow B 151 3 v (yA a) (flat a))(G:DL w t f)(F:yA a<=1048576)(o:B<=w.1.size):
 gA prog 234 #[v,zA (yA a),pA (pB t) 1 1] w λe I=>
  ∃x,e=uA x/\I.ownsRow B 151 3 x (yA a+1) (flat (dM a (yA a) f))/\bE (λk=>v.ownBlock=bA k) w I/\(x.ownBlock=v.ownBlock\/x.ownBlock=bA w.1.size):=by
 obtain⟨H,p,q,r,s⟩:=nL;have i:bB (∀j u,(flat [f])[j]?=bA u->w.cell? (((dB t 0):Addr).add j)=bA u):=λj u N=>by
  rw[Addr.add_lit,Ya];exact G.cells j u N
 have z:bB (flat (dM a (yA a) f)=flat a++flat [f]):=by
  show _=_;rw[US];simp[flat]
 have D:bB (w.ownsRow B 151 3 v (yA a) (flat a)):=d;have C:bB _:=p;clear G p;obtain⟨rfl,K⟩|⟨g,m,J,rfl,P,L,M,y,_⟩:=d.2
 .obtain rfl:a=[]:=Nb.1 K;clear d;go_enter func234,ntmps234;go_wp2_with(at_builtin;refine wpList_append_own_at _ rfl _ _ _ rfl B 151 H _ 3 40 underlying33 C.o q r s rfl (by omega) (pA aA 0 0) 0 [] rfl D.o (dB t 0) 1 1 (flat [f]) rfl rfl i.o (pG _) (by simp[maxLen]) (by omega) o ?_;intro A O c b _ l);go_ret;exact⟨A,rfl,c,bE.grown b λg h=>h,l⟩
 have E:(m:Int)<=9223372036854775807:=by unfold maxLen at y;omega
 clear d L;generalize Q:yA a=n at *;go_enter func234,ntmps234;go_wp2_with(at_builtin;refine wpList_append_own_at _ rfl _ _ _ rfl B 151 H _ 3 40 underlying33 C.o q r s rfl (by omega) (pA (pB g) n m) n (flat a) rfl D.o (dB t 0) 1 1 (flat [f]) rfl rfl i.o (pG _) (by simp[maxLen];omega) (by omega) o ?_;intro A O c b _ l);all_goals(go_ret;rw[z.o];exact⟨A,rfl,c,bE.grown b λg h=>h,l⟩)
def OU(B h i:Nat)(v:iA)(b:List jB)(f:jB)(w:eA)(a:w.ownsRow B 151 3 v (yA b) (flat b))(p:DL w h f)(q:v.ownBlock≠bA h)(D:i<=yA b)(c:yA b<=1048576)(j:B<=w.1.size):
 gA prog 234 #[v,zA i,pA (pB h) 1 1] w λe m=>
  ∃l,e=uA l/\m.ownsRow B 151 3 l (yA b+1) (flat (dM b i f))/\bE (λk=>v.ownBlock=bA k) w m/\(l.ownBlock=v.ownBlock\/l.ownBlock=bA w.1.size):=by
 by_cases u:i=yA b
 .subst u;exact nw B h v b f w a p c j
 obtain⟨rfl,z⟩|⟨g,d,s,rfl,A,C,x,t,_⟩:=a.2;omega
 by_cases y:yA b+1<=d
 .refine (YN B g d i h b f w a p (λe=>q (by rw[e];rfl)) (by omega) y c).mono ?_;rintro e m ⟨rfl,n,o⟩;exact⟨_,rfl,n,o.mono (λk e=>by subst e;rfl),Ca rfl⟩
 refine (fc B g d i h b f w a p (by omega) (by omega) c j).mono ?_;rintro e m ⟨r,rfl,n,o⟩;exact⟨_,rfl,n,bE.of o,La rfl⟩
def ZK{w:eA}{B g a:Nat}{b:Array iA}{e:jA}{fs:List jB}(c:B<=g)(h:gB w g b e)(f:yA fs<=a)(d:a<=maxLen)(k:b.size=a*3)(i:∀j(m:j<yA fs),wH b 0 j fs[j]):
 w.ownsRow B e 3 (pA (pB g) (yA fs) a) (yA fs) (flat fs):=
 sR c h f d k (tE fs) λj u l=>by
  have:=kO (jX h i) j u l;rwa [Addr.add_lit,Ya]at this
def bK{w:eA}{B g b:Nat}{e:jA}{c:List jB}(h:w.ownsRow B e 3 (pA (pB g) (yA c) b) (yA c) (flat c)):
 ∃a,B<=g/\gB w g a e/\yA c<=b/\b<=maxLen/\a.size=b*3/\∀j(m:j<yA c),wH a 0 j c[j]:=by
 obtain⟨a,q,_,l,s,r,t,d⟩:=oR h;refine⟨a,q,l,s,r,t,λj m=>?_⟩;obtain⟨n,o,p⟩:=flat_get c j m;have f:=d _ _ n;have i:=d _ _ o;have k:=d _ _ p;rw[l.cell]at f i k;exact⟨by rw[Ya];exact f,by rw[Ya];exact i,by rw[Ya];exact k⟩
def rC.slice{w:eA}{B D:Nat}{b:List jB}{c k d i:Int}{f:Bool}{v:iA}(h:rC w B D b c k d i f v)(m:0<yA b):∃g a,v=pA (pB g) (yA b) a/\g≠D/\B<=g:=by
 obtain⟨_,l⟩|⟨g,a,e,rfl,j,_⟩:=h.row.2;omega;exact ⟨g,a,rfl,h.apart g rfl,j⟩
def rC.size{w:eA}{B D:Nat}{e:List jB}{c k a d:Int}{b:Bool}{v:iA}(h:rC w B D e c k a d b v):B<=w.1.size:=by
 have:=aB h.blk;have:=h.from';omega
def rC.cell4{w:eA}{B D:Nat}{e:List jB}{c k a d:Int}{b:Bool}{v:iA}(h:rC w B D e c k a d b v):w.cell? (dB D 4)=bA v:=by
 have:=h.blk.cell 4;simpa using this
def rC.cell5{w:eA}{B D:Nat}{e:List jB}{c k a d:Int}{b:Bool}{v:iA}(h:rC w B D e c k a d b v):w.cell? (dB D 5)=bA (zA c):=by
 have:=h.blk.cell 5;simpa using this
def rC.files{w:eA}{B D:Nat}{d:List jB}{c k e g:Int}{f:Bool}{v:iA}(h:rC w B D d c k e g f v):∃a b,v=pA a (yA d) b/\rB w a d:=by
 obtain⟨a,b,rfl,i⟩:=gH h.row;exact⟨a,b,rfl,i.files⟩
def rC.put{w p:eA}{B D g d i:Nat}{b:List jB}{f:jB}{c k q s:Int}{r:Bool}{a:Array iA}(h:rC w B D b c k q s r (pA (pB g) (yA b) d))(l:pD g w p)
(x:gB p g a 151)(A:a.size=d*3)(z:∀m(t:m<yA b),wH a 0 m (if m=i then f else b[m])):rC p B D (b.set i f) c k q s r (pA (pB g) (yA b) d):=by
 obtain⟨u,v,_,y,t,_,_⟩:=bK h.row;refine⟨h.from',gB.keeps h.blk (bE.but l) (λe=>h.apart g rfl e.symm),?_,h.apart⟩;have e:yA (b.set i f)=yA b:=Pd ..;have:=ZK (fs:=b.set i f) v x (by rw[e];exact y) t A (λj C=>by
  have o:=z j (by omega);rw[List.getElem_set];by_cases n:j=i
  .subst n;simpa using o
  rw[Ja n]at o;rw[Ja (Ne.symm n)];exact o)
 rw[e]at this;rw[e];exact this
def aAq(b o:Nat)(c:Array iA)(t:jA)(d x:nB)(w:eA)(f:gB w b c t)(g:c[o+1]?=bA (oA d))(j:d.size+x.size<=4000000000):
 gA prog 235 #[sA (bA (dB b o)),oA x] w λe i=>e=uA (xA #[])/\i=w.setCell (dB b (o+1)) (oA (d++x)):=by
 have h:=f.cell (o+1);rw[g]at h;have a:=f.free (o+1);clear f g;go_enter func235,ntmps235;go_wp2;go_end0;exact⟨rfl,rfl⟩
def aEz{b:Array iA}{a:List jB}{i:Nat}(l:i<yA a)(h:∀m(c:m<yA a),wH b 0 m a[m])(x:nB)(s:Int):
 ∀m(c:m<yA a),wH ((b.setIfInBounds (i*3+1) (oA x)).setIfInBounds (i*3+2) (zA s)) 0 m (if m=i then⟨a[i].N,x,s⟩ else a[m]):=by
 intro m c;by_cases e:m=i
 .subst e;rw[Ma rfl];obtain⟨g,j,k⟩:=h m c;have d:=(Vb.1 j).1;have f:=(Vb.1 k).1;rw[Ya]at d f;refine⟨?_,?_,?_⟩
  .rw[Ea (by omega),Ea (by omega)];exact g
  .rw[Ya,Ea (by omega)];simp[d]
  rw[Ya];simp[f]
 rw[Ja e];exact((h m c).set (by omega) _).set (by omega) _
def zw{b:Array iA}{a:List jB}{i:Nat}(d:i<yA a)(h:∀m(c:m<yA a),wH b 0 m a[m])(x:nB):
 ∀m(c:m<yA a),wH (b.setIfInBounds (i*3+1) (oA x)) 0 m (if m=i then⟨a[i].N,x,a[i].Y⟩ else a[m]):=by grind [wH]
def zy{b:Array iA}{a:List jB}{i:Nat}(d:i<yA a)(h:∀m(c:m<yA a),wH b 0 m a[m])(s:Int):
 ∀m(c:m<yA a),wH (b.setIfInBounds (i*3+2) (zA s)) 0 m (if m=i then⟨a[i].N,a[i].data,s⟩ else a[m]):=by grind [wH]
def aw(b o:Nat)(a:Array iA)(t:jA)(d:nB)(s:Int)(w:eA)(f:gB w b a t)(c:a[o+1]?=bA (oA d))(g:zB s 0 d.size=cA):
 vE 189 #[sA (bA (dB b o)),zA s] w (eH 6):=by
 have j:=f.cell (o+1);rw[c]at j;have i:bB _:=g;clear f c g;go_enter func189,ntmps189;go_wp2_with fail;apply hC (bO i.o _);rintro h rfl;go_wp2;go_ret;exact⟨rfl,bD⟩
def kq(b o:Nat)(c:Array iA)(t:jA)(d:nB)(s:Int)(w:eA)(j:gB w b c t)(k:c[o+1]?=bA (oA d))(p:o+2<c.size)(l:zB s 0 d.size=dA)(B:d.size<=1000000000):
 gA prog 189 #[sA (bA (dB b o)),zA s] w λe i=>e=uA (eH 0)/\pD b w i/\
  gB i b ((c.setIfInBounds (o+1) (oA (d.extract 0 s.toNat))).setIfInBounds (o+2) (zA s)) t:=by
 have z:=j.cell (o+1);rw[k]at z;have a:=j.free (o+1);have y:bB _:=l;have g:0<=s/\s<=d.size:=by simpa[zB]using l
 obtain⟨g,A⟩:=g;have n:bB (gB w b c t):=j;have r:bB _:=(Vb.1 k).1;have u:bB _:=p;clear j k l p;go_enter func189,ntmps189;go_wp2_with fail;apply hC (bO y.o _);rintro i rfl;go_wp2_with fail;refine hC (kh b o _ t (d.extract 0 s.toNat) _ (n.o.set (o+1) (oA (d.extract 0 s.toNat))) (by have:=r.o;simp[Eb];omega) (by have:=u.o;simp;omega)) ?_;intro m f;have v:bB (pD b i m):=by show pD b i m;rw[f];exact((pD.refl _ _).setCell _ _).setCell _ _
 have q:bB (((d.extract 0 s.toNat).size:Int)=s):=by show _=_;rw[Je];omega
 have x:bB (gB m b ((c.setIfInBounds (o+1) (oA (d.extract 0 s.toNat))).setIfInBounds (o+2) (zA s)) t):=by
  have h:=(n.o.set (o+1) (oA (d.extract 0 s.toNat))).set (o+2) (zA ((d.extract 0 s.toNat).size:Nat));show gB _ _ _ _;rw[f];rw[q.o]at h |-
  exact h
 clear f;go_wp2;go_ret;exact⟨rfl,v.o,x.o⟩
def nJ(w c:eA):Prop:=∀(b:Nat)(o:Obj),w.heap[b]?=bA o->(∀a t,o=vA a t (0,0)->t≠151/\t≠153)->c.heap[b]?=bA o
def CI{w:eA}{b:Nat}{o:Obj}(h:w.heap[b]?=bA o):b<w.1.size:=(Vb.1 h).1
def nJ.blk{w c:eA}(k:nJ w c){b:Nat}{a:Array iA}{t:jA}(h:gB w b a t)(d:t≠151)(f:t≠153):gB c b a t:=k b _ h λ_ _ e=>by cases e;exact⟨d,f⟩
def nJ.trans{a b c:eA}(h:nJ a b)(k:nJ b c):nJ a c:=λx o e d=>k x o (h x o e d) d
def nJ.of{w c:eA}(h:tB w c):nJ w c:=λb _ a _=>(h.block b (CI a)).trans a
def nJ.keeps{S:Nat->Prop}{w e:eA}(h:bE S w e)(f:∀k,S k->∃b t,gB w k b t/\(t=151\/t=153)):nJ w e:=λx o c i=>(h.block x (CI c) λj=>by
 obtain⟨d,n,g,a⟩:=f x j;obtain⟨l,m⟩:=i _ _ (Lc (c.symm.trans g));obtain a|a:=a;exact l a;exact m a).trans c
def nJ.set{w:eA}{g o:Nat}{a:Array iA}{t:jA}(b:gB w g a t)(c:t=151\/t=153)(v:iA):nJ w (w.setCell (dB g o) v):=
 nJ.keeps (S:=λk=>k=g) ((bE.refl (λk=>k=g) w).setCell (g:=g) rfl o v) (λk e=>⟨a,t,by rw[e];exact b,c⟩)
def QC{w:eA}{B:Nat}{v:iA}{n:Nat}{e:List iA}(h:w.ownsRow B 151 3 v n e):∀g,v.ownBlock=bA g->∃a,gB w g a 151:=by
 intro g b;obtain⟨rfl,_⟩|⟨f,c,a,rfl,_,d,_⟩:=h.2;simp[iA.ownBlock]at b;simp[iA.ownBlock]at b;subst b;exact⟨a,d⟩
structure vJ(B:Nat)(w w':World):Prop where
 below:Below B w w'
 other:nJ w w'
def vJ.trans{B:Nat}{a b c:eA}(h:vJ B a b)(k:vJ B b c):vJ B a c:=⟨h.below.trans k.below,h.other.trans k.other⟩
def vJ.of{B:Nat}{w a:eA}(h:tB w a)(b:B<=w.1.size):vJ B w a:=⟨h.mono b,nJ.of h⟩
def vJ.on{B:Nat}{a w b:eA}(h:vJ B a w)(k:tB w b)(c:B<=w.1.size):vJ B a b:=h.trans (vJ.of k c)
def vJ.set{B g o:Nat}{a w:eA}{b:Array iA}{t:jA}(h:vJ B a w)(c:gB w g b t)(e:t=151\/t=153)(d:B<=g)(v:iA):vJ B a (w.setCell (dB g o) v):=
 ⟨h.below.setCell (by show B<=g;exact d) _,h.other.trans (nJ.set c e v)⟩
def vJ.but{B g:Nat}{a w c:eA}{b:Array iA}{t:jA}(h:vJ B a w)(k:pD g w c)(f:gB w g b t)(l:t=151\/t=153)(i:B<=g)(d:B<=w.1.size):vJ B a c:=
 ⟨h.below.trans (k.below i d),h.other.trans (nJ.keeps (bE.but k) (λj e=>⟨b,t,by rw[e];exact f,l⟩))⟩
def vJ.charge{B D:Nat}{g:List jB}{c k d f:Int}{e:Bool}{v:iA}{w b:eA}{o:Obj}(h:rC w B D g c k d f e v)(i:B<=w.1.size)(a:pD D (w.alloc o) b):vJ B w b:=
 (vJ.of (pF w o) i).but a (h.z (pF w o)).blk (La rfl) h.from' (by simp;omega)
def rC.turn{w i:eA}{B D:Nat}{j a:List jB}{c k d f:Int}{e:Bool}{v b:iA}(h:rC w B D j c k d f e v)(m:gB i D #[zA k,zA d,zA f,qA e,b,zA c] 153)
(n:i.ownsRow B 151 3 b (yA a) (flat a))(l:∀g,b.ownBlock=bA g->g≠D):rC i B D a c k d f e b:=⟨h.from',m,n,l⟩
def BD{w:eA}{B:Nat}{e:jA}{a:Nat}{v:iA}{n:Nat}{j:List iA}(h:w.ownsRow B e a v n j){D:Nat}(m:∀g,v.ownBlock=bA g->g≠D)(o:Nat)(u:iA):(w.setCell (dB D o) u).ownsRow B e a v n j:=by
 obtain⟨k,d⟩:=h;refine⟨k,?_⟩;obtain d|⟨g,b,c,i,l,p,r⟩:=d;exact Ca d;have f:=m g (by rw[i];rfl);exact La ⟨g,b,c,i,l,(Below.heap_setCell w (dB D o) u g f).trans p,r⟩
def QE(B D i:Nat)(b:List jB)(c k n p:Int)(o:Bool)(v:iA)(w:eA)(h:rC w B D b c k n p o v)(x:i<yA b)(l:yA b<=1048576):
 gA prog 191 #[.pointer (pB D),zA i] w λe z=>
  e=uA (xA #[])/\∃y,rC z B D (b.eraseIdx i) c k n p o y/\y.ownBlock=v.ownBlock/\bE (λk=>k=D\/v.ownBlock=bA k) w z:=by
 obtain⟨g,f,rfl,q,H⟩:=h.slice (by omega);have J:=h.cell4;have m:bB _:=h;have I:IntKind.i64.wrap ((i:Int)+1)=(i:Int)+1:=by rw[IntKind.wrap_i64];omega
 clear h;go_enter func191,ntmps191;go_wp2_with fail;apply hC (mm B g f i b _ m.o.row x l);rintro u ⟨j,r⟩;have d:=m.o.blk.keeps r (λe=>q e.symm);have F:=d.cell 4;have a:=d.free 4;simp only[Xb,Ob,Ga]at F;have E:bB (u.ownsRow B 151 3 (pA (pB g) (yA b-1) f) (yA b-1) (flat (b.eraseIdx i))):=j;have C:bB _:=r;have A:bB (gB u D #[zA k,zA n,zA p,qA o,pA (pB g) (yA b) f,zA c] 153):=d;clear j r d;go_wp2;go_end0;refine⟨rfl,pA (pB g) (yA b-1) f,m.o.turn ?_ ?_ (λG e=>by simp[iA.ownBlock]at e;omega),rfl,?_⟩
 .have:=A.o.set 4 (pA (pB g) (yA b-1) f);simpa using this
 .have e:yA (b.eraseIdx i)=yA b-1:=by rw[Ad,Ma x]
  rw[e];exact BD E.o (λG e=>by simp[iA.ownBlock]at e;omega) _ _
 have s:bE (λt=>t=D\/(iA.slice (pB g) (yA b) f).ownBlock=bA t) w u:=C.o.mono (λt e=>La (by subst e;rfl));exact s.setCell (Ca rfl) _ _
def WX(B D i:Nat)(a:List jB)(c k o q:Int)(p:Bool)(v:iA)(x:nB)(w:eA)(h:rC w B D a c k o q p v)(I:i<yA a)(M:yA a<=1048576)(N:(qC a:Int)<=c)(m:c<=1000000000):
 gA prog 187 #[.pointer (pB D),zA i,oA x] w λe u=>
  ((c<qC a+x.size/\e=uA (eH 3)/\rC u B D a c k o q p v)\/(qC a+x.size<=c/\e=uA (eH 0)/\rC u B D (a.set i ⟨a[i].N,a[i].data++x,a[i].Y⟩) c k o q p v))/\vJ B w u:=by
 obtain⟨g,n,rfl,V,S⟩:=h.slice (by omega);obtain⟨Z,J,F,l⟩:=h.files;have K:=iC.cells h.cell4;have L:=iC.cells h.cell5;have s:=iC.there w;have A:bB _:=h;have P:bB (rB w (pB g) a):=by
  simp only[iA.slice.injEq]at F;obtain⟨rfl,_⟩:=F;exact l
 have Y:IntKind.i64.wrap (c-(qC a:Int))=c-(qC a:Int):=by rw[IntKind.wrap_i64];omega
 have j:bB (∀x:iC w,rB x.w' (pB g) a):=λx=>P.o.z x.h;have f:bB (∀x:iC w,rC x.w' B D a c k o q p (pA (pB g) (yA a) n)):=λx=>A.o.z x.h;have r:yA a<=maxLen:=by simp[maxLen];omega
 have t:qC a<=1000000000:=by omega
 clear h F l;by_cases h:c-(qC a:Int)<(x.size:Int)
 .go_enter func187,ntmps187;go_wp2_with fail;refine wB (by kernel_rfl) (by kernel_rfl) ?_;repeat (go_big_quiet_step (first|(go_at_call 66;exact mC (wJ _ _ _ _ (j.o _) r t))))
  refine wpQuiet_nil ?_;rintro _ ⟨y,rfl⟩;have C:bB _:=y.h;have z:bB _:=f.o y;have G:=A.o.size;clear K L s f j;generalize y.w'=W at *;clear y;go_wp2;go_ret;exact⟨Ca ⟨by omega,rfl,z.o⟩,vJ.of C.o G⟩
 go_enter func187,ntmps187;go_wp2_with fail;refine wB (by kernel_rfl) (by kernel_rfl) ?_;repeat (go_big_quiet_step (first|(go_at_call 66;exact mC (wJ _ _ _ _ (j.o _) r t))))
 refine wpQuiet_nil ?_;rintro _ ⟨y,rfl⟩;have C:bB _:=y.h;have z:bB _:=f.o y;have G:=A.o.size;have h:=(f.o y).cell4;clear K L s f j;generalize y.w'=W at *;clear y;obtain⟨E,_,d,X,T,H,b⟩:=bK z.o.row;have m:=(b i I).2.1;rw[Ya]at m;have U:a[i].data.size<=qC a:=by
  have h:=gI a i I;have h:=pH a (i+1);omega
 have R:bB (gA prog 235 #[sA (bA (dB g (i*3))),oA x] W λe u=>e=uA (xA #[])/\u=W.setCell (dB g (i*3+1)) (oA (a[i].data++x))):=aAq g (i*3) E 151 a[i].data x W d m (by omega);have Q:bB (rC (W.setCell (dB g (i*3+1)) (oA (a[i].data++x))) B D (a.set i ⟨a[i].N,a[i].data++x,a[i].Y⟩) c k o q p (pA (pB g) (yA a) n)):=
  z.o.put ((pD.refl _ _).setCell _ _) (d.set _ _) (by simp[H]) (zw I b _)
 have O:bB (vJ B w (W.setCell (dB g (i*3+1)) (oA (a[i].data++x)))):=(vJ.of C.o G).set d (Ca rfl) (by omega) _;clear d b m;go_wp2_with fail;apply hC R.o;rintro h rfl;go_wp2;go_ret;exact⟨La ⟨by omega,rfl,Q.o⟩,O.o⟩
def vJ.removed{w d:eA}{B D:Nat}{l:List jB}{c k f j:Int}{i:Bool}{v:iA}(h:rC w B D l c k f j i v)(b:bE (λk=>k=D\/v.ownBlock=bA k) w d):vJ B w d:=
 ⟨b.below (λg e=>by
  obtain e|e:=e
  .rw[e];exact h.from'
  .exact mH h.row g e) h.size,nJ.keeps b (λg e=>by
  obtain e|e:=e;rw[e];exact⟨_,_,h.blk,La rfl⟩;obtain ⟨a,m⟩:=QC h.row g e;exact⟨a,_,m,Ca rfl⟩)⟩
def rC.inserted{w l:eA}{B D i:Nat}{d:List jB}{f:jB}{c k p r:Int}{q:Bool}{v a:iA}(h:rC w B D d c k p r q v)(x:i<=yA d)
(y:l.ownsRow B 151 3 a (yA d+1) (flat (dM d i f)))(o:bE (λk=>v.ownBlock=bA k) w l)(n:a.ownBlock=v.ownBlock\/a.ownBlock=bA w.1.size):
 rC (l.setCell (dB D 4) a) B D (dM d i f) c k p r q a/\vJ B w (l.setCell (dB D 4) a):=by
 have z:=aB h.blk;have j:∀g,a.ownBlock=bA g->g≠D:=λg b=>by
  obtain e|e:=n;exact h.apart g (by rw[<-e];exact b);rw[e]at b;simp at b;omega
 have s:=h.blk.keeps o (λe=>h.apart D e rfl);refine⟨⟨h.from',?_,?_,j⟩,?_⟩;have:=s.set 4 a;simpa using this;rw[sQ d i f x];exact BD y j _ _;have t:vJ B w l:=⟨o.below (λg b=>mH h.row g b) h.size,nJ.keeps o (λg b=>by
  obtain⟨m,u⟩:=QC h.row g b;exact⟨m,_,u,Ca rfl⟩)⟩
 exact t.set s (La rfl) h.from' _
def mg(B D:Nat)(d:List jB)(c k A E:Int)(C:Bool)(v:iA)(m:nB)(w:eA)(h:rC w B D d c k A E C v)(n:xU d)(r:yA d<=1048576):
 gA prog 186 #[.pointer (pB D),oA m] w λe G=>∃i F,mT d m i/\vJ B w G/\
  ((fI d m i=dA/\e=uA (eH 5)/\rC G B D d c k A E C F)\/(fI d m i=cA/\1000<=yA d/\e=uA (eH 3)/\rC G B D d c k A E C F)\/
    (fI d m i=cA/\yA d<1000/\e=uA (eH 0)/\rC G B D (dM d i ⟨m,kA,0⟩) c k A E C F)):=by
 obtain⟨a,u,rfl,p⟩:=h.files;have R:=h.cell4;have K:bB _:=h;have O:bB (rB w a d):=p;have N:bB (xU d):=n;clear h p n;go_enter func186,ntmps186;go_wp2_with fail;refine(iW a u d m _ O.o N.o r).mono ?_;rintro e M ⟨i,J,rfl,t⟩;have H:bB (mT d m i):=J;have q:=J.1;have f:bB _:=K.o.z t;have s:bB _:=vJ.of t K.o.size;have S:=f.o.cell4;clear R t J;cases hq:fI d m i with
 |true=>
  have z:bB _:=hq;clear hq;go_wp2;go_ret;exact⟨i,_,H.o,s.o,Ca ⟨z.o,rfl,f.o⟩⟩
 |false=>
  have z:bB _:=hq;clear hq;by_cases V:(1000:Int)<=(yA d:Int)
  .go_wp2;go_ret;exact⟨i,_,H.o,s.o,La (Ca ⟨z.o,by omega,rfl,f.o⟩)⟩
  go_wp2_with fail;have g:=f.o.z (pF M (vA #[oA m,oA kA,zA 0] 151));refine(OU B M.1.size i (pA a (yA d) u) d ⟨m,kA,0⟩ _ g.row (heap_alloc_new _ _) (λe=>by have:=wG f.o.row _ e;omega) q r g.size).mono ?_;rintro e W ⟨F,rfl,l,I,x⟩;obtain⟨y,o⟩:=g.inserted q l I x;have j:=g.blk.keeps I (λe=>g.apart D e rfl);obtain⟨U,L,rfl⟩:=fZ l;have T:=j.cell 4;have b:=j.free 4;simp only[Xb,Ob,Ga]at T;have P:bB _:=y;have Q:bB _:=(s.o.on yB f.o.size).trans o;clear y o j l I x g S;go_wp2;go_ret;exact⟨i,_,H.o,Q.o,La (La ⟨z.o,by omega,rfl,P.o⟩)⟩
def zz{a:Array iA}{b:List jB}{i:Nat}(d:i<yA b)(h:∀m(c:m<yA b),wH a 0 m b[m])(f:jB):
 ∀m(c:m<yA b),wH (((a.setIfInBounds (i*3) (oA f.N)).setIfInBounds (i*3+1) (oA f.data)).setIfInBounds (i*3+2) (zA f.Y)) 0 m (if m=i then f else b[m]):=by grind [wH]
def pq(B D i:Nat)(b:List jB)(c k H J:Int)(I:Bool)(v:iA)(m:nB)(w:eA)(h:rC w B D b c k H J I v)(hi:i<yA b)(y:xU (b.eraseIdx i))(V:yA b<=1048576):
 gA prog 190 #[sA (bA ⟨D,0,aA⟩),.int mA i,oA m] w λe w'=>e=uA (xA #[])/\∃j v',mT (b.eraseIdx i) m j/\vJ B w w'/\
  ((fI (b.eraseIdx i) m j=dA/\rC w' B D ((b.eraseIdx i).set j ⟨m,b[i].data,b[i].Y⟩) c k H J I v')\/(fI (b.eraseIdx i) m j=cA/\rC w' B D (dM (b.eraseIdx i) j ⟨m,b[i].data,b[i].Y⟩) c k H J I v')):=by
 obtain⟨g,cap,rfl,hgD,hBg⟩:=h.slice (by omega);obtain⟨cur,_,a,hnc,hcm,hcs,f⟩:=bK h.row;obtain⟨r0,r1,r2⟩:=f i hi;rw[Ya]at r0 r1 r2;have c0:=a.cell (i*3);have c1:=a.cell (i*3+1);have c2:=a.cell (i*3+2);rw[r0]at c0;rw[r1]at c1;rw[r2]at c2;have d4:=h.cell4;have Z:bB _:=h;have HA:bB (xU (b.eraseIdx i)):=y;have hgl:=aB a;have hDl:=aB h.blk;clear h y a f r0 r1 r2;go_enter func190,ntmps190;go_wp2_with fail;apply hC (QE B D i b c k H J I _ _ (Z.o.z (pF w (vA #[oA m,oA b[i].data,.int mA b[i].Y] 151))) hi V);rintro w1 ⟨v1,p,W,hk⟩;have N:bB (gB w1 w.1.size #[oA m,oA b[i].data,.int mA b[i].Y] 151):=gB.keeps (heap_alloc_new _ _) hk (λe=>by
  obtain e|e:=e;omega;simp[iA.ownBlock]at e;omega)
 have L:bB _:=(vJ.of yB Z.o.size).trans (vJ.removed (Z.o.z yB) hk);have U:yA (b.eraseIdx i)<=1048576:=by rw[Ad,Ma hi];omega
 have X:v1.ownBlock=bA g:=W;obtain⟨G,l,rfl,z⟩:=p.files;have P:bB _:=X;have E:bB _:=p;have O:bB (rB w1 G (b.eraseIdx i)):=z;have e4:=p.cell4;clear c0 c1 c2 d4 p hk z W X;generalize T:b.eraseIdx i=o at *;go_wp2_with fail;refine(iW G l o m _ O.o HA.o U).mono ?_;rintro e K ⟨j,hp,rfl,t⟩;have HP:bB (mT o m j):=hp;have A:=hp.1;have d:bB _:=E.o.z t;have M:bB _:=L.o.on t E.o.size;have r:bB (gB K w.1.size #[oA m,oA b[i].data,.int mA b[i].Y] 151):=N.o.z t;have g4:=d.o.cell4;have x0:=r.o.cell 0;have x1:=r.o.cell 1;have x2:=r.o.cell 2;simp only[Xb,Ob,Ga]at x0 x1 x2;clear e4 t hp O E L N;cases hq:fI o m j with
 |true=>
  have HQ:bB _:=hq;have hjl:j<yA o:=by
   rcases Gc j (yA o) with h|h;exact h;rw[fI,Fd h]at hq;exact absurd hq (by simp)
  obtain⟨s,cap',ev,_,_⟩:=d.o.slice (by omega);obtain rfl:s=g:=by have:=P.o;rw[ev]at this;simpa[iA.ownBlock]using this
  simp only[iA.slice.injEq]at ev;obtain⟨rfl,_,rfl⟩:=ev;obtain⟨Q,_,a,hnc2,hcm2,S,f⟩:=bK d.o.row;have hsz2:j*3+2<Q.size:=by omega
  obtain⟨y0,z0⟩:=a.there (j:=j*3) (by omega);obtain⟨y1,z1⟩:=a.there (j:=j*3+1) (by omega);obtain⟨y2,z2⟩:=a.there (j:=j*3+2) (by omega);have k0:=a.free (j*3);have k1:=a.free (j*3+1);have k2:=a.free (j*3+2);have n:pD s K (((K.setCell ⟨s,j*3,aA⟩ (oA m)).setCell ⟨s,j*3+1,aA⟩ (oA b[i].data)).setCell ⟨s,j*3+2,aA⟩ (.int mA b[i].Y)):=(((pD.refl _ _).setCell _ _).setCell _ _).setCell _ _;have u:bB (rC (((K.setCell ⟨s,j*3,aA⟩ (oA m)).setCell ⟨s,j*3+1,aA⟩ (oA b[i].data)).setCell ⟨s,j*3+2,aA⟩ (.int mA b[i].Y)) B D (o.set j ⟨m,b[i].data,b[i].Y⟩) c k H J I (pA (bA ⟨s,0,aA⟩) (yA o) l)):=
   d.o.put n (((a.set (j*3) (oA m)).set (j*3+1) (oA b[i].data)).set (j*3+2) (.int mA b[i].Y)) (by simp[S]) (zz hjl f ⟨m,b[i].data,b[i].Y⟩)
  have Y:bB _:=M.o.but n a (Ca rfl) hBg d.o.size;clear hq a f n;go_wp2_with fail;go_region
  go_wp2;refine bodyPost_ret (results_none rfl _ _ _) rfl ?_;subst T;exact⟨rfl,j,_,HP.o,Y.o.on bD.drew u.o.size,Ca ⟨HQ.o,u.o.z bD.drew⟩⟩
 |false=>
  have HQ:bB _:=hq;have x:(iA.slice G (yA o) l).ownBlock≠bA D:=λe=>d.o.apart D e rfl;have hap3:(iA.slice G (yA o) l).ownBlock≠bA w.1.size:=λe=>by rw[P.o]at e;simp at e;omega
  have q:bB (rC (K.drew.alloc (vA #[oA m,oA b[i].data,.int mA b[i].Y] 151)) B D o c k H J I (pA G (yA o) l)):=(d.o.z bD.drew).z yB;clear hq;go_wp2_with fail;have hDl2:=aB d.o.blk;have hFl2:=aB r.o;go_region_with (go_at_call 234;refine(OU B K.1.size j (pA G (yA o) l) o ⟨m,b[i].data,b[i].Y⟩ _ q.o.row (heap_alloc_new _ _) (λe=>by have:=wG d.o.row _ e;omega) A U q.o.size).mono ?_;rintro e w7 ⟨v',rfl,C,F,hat⟩;obtain⟨a7,cap7,rfl⟩:=fZ C;have q4:=(q.o.blk.keeps F x).cell 4;have q5:=(q.o.blk.keeps F x).free 4;simp only[Xb,Ob,Ga]at q4)
  all_goals(
   go_wp2
   go_end0
   subst T;obtain⟨p,R⟩:=q.o.inserted A C F hat;exact⟨rfl,j,_,HP.o,((M.o.on bD.drew d.o.size).on yB d.o.size).trans R,La ⟨HQ.o,p⟩⟩)
