import Derived.Test.YtcmdjimlmnaojaaGreatDoorJ10
import Derived.Lib.AppendZerosOnto
set_option maxRecDepth 100000
set_option maxHeartbeats 4000000
set_option linter.defProp false
open Bool renaming true->eA,false->dA
open Option renaming some->cA,none->aA
open ByteArray renaming empty->lA
open List renaming length->zA
namespace Go.Proofs.YtcmdjimlmnaojaaGreatDoor
open Go renaming TypeId->kA,Value->jA,World->fA,Calls->iA
open Value renaming bool->sA,slice->qA,tuple->yA,string->pA,pointer->tA
open Ending renaming returned->vA
open Obj renaming cells->xA
open IntKind renaming i64->oA
open Go.RowKit Tryz
def jD(k a b:Int)(c:Bool):Nat×Int×Bool:=
 if c=eA then(1,k,eA) else if k=1000000000000000 then(2,k,dA) else if a≠0/\k+1=a then(1,k+1,eA) else if b≠0/\k+1=b then(2,k+1,dA) else(0,k+1,dA)
def dW(D:Nat)(t:kA)(o p:jA)(k b c:Int)(g:Bool)(w:fA)(i:jB w D #[aB k,aB b,aB c,sA g,o,p] t)(C:0<=k)(F:k<=1000000000000000):
 iA prog 179 #[.pointer (vB D)] w λe s=>e=vA (nH (jD k b c g).1)/\sD D w s/\jB s D #[aB (jD k b c g).2.1,aB b,aB c,sA (jD k b c g).2.2,o,p] t:=by
 have v:=i.cell 0;have x:=i.cell 3;simp only[Xb,Ob,Ga]at v x;have a:=i.free 0;have n:(g=eA/\jD k b c g=(1,k,eA)\/(g=dA/\k=1000000000000000)/\jD k b c g=(2,k,dA))\/g=dA/\¬k=1000000000000000:=by
  cases g<;>by_cases h:k=1000000000000000<;>simp[jD,h]
 rcases n with(⟨rfl,E⟩|⟨⟨rfl,rfl⟩,E⟩)|⟨rfl,M⟩
 iterate 2
  .have E:=dB E
   have u:=dB i;clear i
   go_enter func179,ntmps179
   go_wp2
   go_ret
   rw[E.o];exact⟨rfl,sD.refl _ _,u.o⟩
 have j:=i.set 0 (aB (k+1));have d:cB (jB (w.setCell (eB D 0) (aB (k+1))) D #[aB (k+1),aB b,aB c,sA dA,o,p] t):=by show jB _ _ _ _;simpa using j
 clear i j;have y:=d.o.cell 0;have z:=d.o.cell 1;have A:=d.o.cell 2;have B:=d.o.cell 3;simp only[Xb,Ob,Ga]at y z A B;have H:=d.o.free 3;have f:=dB ((sD.refl D w).setCell 0 (aB (k+1)));have G:IntKind.i64.wrap (k+1)=k+1:=by rw[IntKind.wrap_i64];omega
 have n:(¬b=0/\k+1=b)/\jD k b c dA=(1,k+1,eA)\/(b=0\/¬b=0/\¬k+1=b)/\((¬c=0/\k+1=c)/\jD k b c dA=(2,k+1,dA)\/(c=0\/¬c=0/\¬k+1=c)/\jD k b c dA=(0,k+1,dA)):=by
  by_cases l:b=0<;>by_cases q:k+1=b<;>by_cases m:c=0<;>by_cases r:k+1=c<;>simp_all[jD]
 obtain⟨⟨l,rfl⟩,E⟩|⟨rfl|⟨l,q⟩,⟨⟨m,rfl⟩,E⟩|⟨rfl|⟨m,r⟩,E⟩⟩:=n
 all_goals
  have E:=dB E;try have I:=Ub l
  try have J:=beq_false_of_ne q
  try have K:=Ub m
  try have L:=beq_false_of_ne r
  go_enter func179,ntmps179;go_wp2_with fail;go_quiet (fail)
  go_wp2_with fail;try (go_quiet (fail);go_wp2)
  go_ret;rw[E.o];first
   |exact⟨rfl,f.o.trans (sD.of (below_drewN (below_drewN gD _) _)),d.o.z (below_drewN (below_drewN gD _) _)⟩
   |exact⟨rfl,f.o.trans (sD.of (below_drewN gD _)),d.o.z (below_drewN gD _)⟩
   |exact⟨rfl,(f.o.trans (sD.of (below_drewN gD _))).setCell _ _,by simpa using (d.o.z (below_drewN gD nq)).set 3 (sA eA)⟩
def mn(B g b i:Nat)(l:List iB)(w:fA)(y:w.ownsRow B 144 3 (qA (vB g) (zA l) b) (zA l) (flat l))(X:i<zA l)(Y:zA l<=1048576):
 iA prog 231 #[qA (vB g) (zA l) b,aB i,aB ((i:Int)+1)] w λe w'=>
  e=vA (qA (vB g) (zA l-1) b)/\w'.ownsRow B 144 3 (qA (vB g) (zA l-1) b) (zA l-1) (flat (l.eraseIdx i))/\kE (λk=>k=g) w w':=by
 obtain⟨K,G,_,r,h,E,C,t⟩:=tR y;obtain⟨Z,F,Q,R,h⟩:=sL;obtain⟨n,H⟩:∃n,zA l=n:=⟨_,rfl⟩
 obtain⟨a,d⟩:∃a,a=flat (l.drop (i+1)):=⟨_,rfl⟩
 have f:zA a=(n-(i+1))*3:=by rw[d,yE,Rc,H]
 have L:zA (flat l)=n*3:=by rw[yE,H]
 have m:∀j,j<n*3->(w.cell? (eB g j)).isSome=eA:=λj M=>by rw[t j _ (Va (by omega))];rfl
 obtain⟨A,h,J⟩:∃A:Addr,(if b=i+1 then cA ((eB g 0):Addr) else cA (eB g ((i+1)*3)))=cA A/\cB (∀j u,a[j]?=cA u->w.drew.cell? (A.add j)=cA u):=by
  by_cases h:b=i+1
  .refine ⟨(eB g 0),by simp[h],λj u o=>?_⟩;have I:zA a=0:=by rw[f];omega
   rw[Nb.1 I]at o;simp at o
  refine ⟨(eB g ((i+1)*3)),by simp[h],λj u o=>?_⟩;rw[d,oU l (i+1) j (by omega)]at o;rw[Addr.add_lit];exact t _ _ o
 have Y:cB _:=f;have s2:cB (∀u∈a,u.oneCell'=eA):=by rw[d];exact zG _
 have h:cB (∀j,j<zA a->(w.drew.cell? (eB g (0+i*3+j))).isSome=eA/\w.drew.frozen? (eB g (0+i*3+j))=dA):=by
  intro j M;rw[f]at M;exact⟨m _ (by omega),r.free _⟩
 obtain⟨x,p⟩:∃x,x=w.drew.setCells g (0+i*3) a:=⟨_,rfl⟩
 have s:jB w.drew g K 144:=r;obtain⟨U,q,z⟩:=jB.setCells a (0+i*3) s;rw[<-p]at q;have I:∀T c,(Builtin.clear_ #[33] T #[.slice (cA (eB g ((n-1)*3))) 1 c]).run prog x=.ok (yA #[]) (x.setCells g ((n-1)*3) mZ):=λT c=>
  SJ x _ T _ Z underlying33 F Q g _ c (λj M=>by obtain⟨v,I⟩:=q.there (j:=(n-1)*3+j) (by rw[z,C];omega);rw[I];rfl) (λj _=>q.free _)
 obtain⟨V,D,I⟩:=jB.setCells mZ ((n-1)*3) q;have HK:cB (kE (λk=>k=g) w (x.setCells g ((n-1)*3) mZ)):=by
  show kE _ _ _;rw[p];exact kE.setCells (S:=λk=>k=g) rfl _ _ (kE.setCells (S:=λk=>k=g) rfl _ _ (kE.refl _ _).drew)
 have HO:cB ((x.setCells g ((n-1)*3) mZ).ownsRow B 144 3 (qA (vB g) (n-1) b) (n-1) (flat (l.eraseIdx i))):=by
  refine xR G D (by omega) E (by rw[I,z,C]) (by rw[yE,Ad,Ma X,H]) λj u o=>?_;have O:=(Pb.1 o).1;rw[yE,Ad,Ma X,H]at O;rw[fA.cell?_setCells_out g mZ ((n-1)*3) x _ (λ_ _=>Ca (by show j<_;omega)),p];rw[mx]at o;have P:zA (flat (l.take i))=i*3:=by rw[yE,Hb];omega
  by_cases N:j<i*3
  .rw[fA.cell?_setCells_out g a (0+i*3) _ _ (λ_ _=>Ca (by show j<_;omega))];rw[Pe (by omega),mQ l i j (by omega) N]at o;exact t j u o
  rw[Uc (by omega),P,<-d]at o;have G:=fA.cell?_setCells_in g a (0+i*3) w.drew (λk O=>(h.o k O).1) (j-i*3) (by omega);rw[show 0+i*3+(j-i*3)=j by omega]at G;rw[G,<-o,Va]
 have o:i<=b:=by omega
 have o:(0:Int)<=(i:Int)+1:=by omega
 have o:(i:Int)+1<=(n:Int):=by omega
 have o:((i:Int)+1).toNat=i+1:=by omega
 have o:¬((i:Int)=(i:Int)+1):=by omega
 have W:(b:Int)<=9223372036854775807:=by unfold maxLen at E;omega
 have o:i+(n-(i+1))=n-1:=by omega
 have o:n-(n-1)=1:=by omega
 have o:cB _:=p;rw[H];clear p y r s q D t m d L f z I C;go_enter func231,ntmps231;go_wp2_with fail;go_region_law (refine step_append_room rfl (.tmp 22) (.tmp 25) 33 rfl 144 Z 3 underlying33 F R g 0 i b (by simp[Act.eval,Act.put]) A (n-(i+1)) (b-(i+1)) a (by simp[Act.eval,Act.put]) Y.o J.o s2.o (by omega) h.o ?_;rw[<-o.o])
 go_wp2;go_ret;exact⟨rfl,HO.o,HK.o⟩
def fh(B g a i J:Nat)(c:List iB)(f:iB)(w:fA)(R:w.ownsRow B 144 3 (qA (vB g) (zA c) a) (zA c) (flat c))(F:DP w J f)(m:i<zA c)(C:a<zA c+1)(G:zA c<=1048576)(hBs:B<=w.1.size):
 iA prog 229 #[qA (vB g) (zA c) a,aB i,qA (vB J) 1 1] w λe w'=>
  ∃L,e=vA (qA (vB w.1.size) (zA c+1) L)/\w'.ownsRow B 144 3 (qA (vB w.1.size) (zA c+1) L) (zA c+1) (flat (mM c i f))/\xB w w':=by
 obtain⟨Y,h,_,r,h,b0,hsz,V⟩:=tR R;obtain⟨O,Z,l0,o,n0⟩:=sL;obtain⟨n,hn⟩:∃n,zA c=n:=⟨_,rfl⟩
 rw[hn]at m C G h |-
 have m:(prog.info? 144).map (·.size)=cA 3:=by rw[Z];simp[o]
 have hgw:=bB r;have g0:(n:Int)+1-(i:Int)=((n+1-i:Nat):Int):=by omega
 have W:i+(n+1-i)=n+1:=by omega
 have K:zA (flat (c.take i))=i*3:=by rw[yE,Hb];omega
 have Q:(Builtin.firstCells O.size i (qA (vB g) i a)).run prog w.drew=.ok (flat (c.take i)).toArray w.drew:=by
  rw[o];exact run_firstCells_some w.drew 3 i (eB g 0) i a (flat (c.take i)) K (λj v d=>by
   rw[Addr.add_lit,Ya];have h:=(Pb.1 d).1;rw[mQ c i j (by omega) (by omega)]at d;exact V j v d)
 obtain⟨G,hG⟩:∃G,G=grownCap w (n+1) a 144:=⟨_,rfl⟩
 obtain⟨z,q⟩:∃z:Array jA,z=(flat (c.take i)).toArray++Builtin.zeroCells (jA.agg #[pA lA,pA lA,aB 0]).cells (n+1-i)++Builtin.zeroCells (jA.agg #[pA lA,pA lA,aB 0]).cells (G-(n+1)):=⟨_,rfl⟩
 obtain⟨o,I⟩:∃o,o=w.drew.alloc (xA z 144):=⟨_,rfl⟩
 have hrz:∀E,(Builtin.append_ #[33,3] E #[qA (vB g) i a,aB ((n:Int)+1-(i:Int))]).run prog w=.ok (qA (vB w.1.size) (n+1) G) o:=λE=>by
  have h:=Lib.run_append_grow_zeros w 33 3 E 144 O _ .i64 oA underlying33 underlying3 Z l0 (vB g) i a _ Q (n+1-i) (by omega) (by omega) (by omega) (by omega) (by rw[n0];omega) (by rw[n0,W];exact growslice_fits C (by omega));rw[W,<-hG,<-q,<-I]at h;rw[g0];exact h
 have h:n+1<=G:=by rw[hG];exact grownCap_ge w _ _ _
 have a0:G<=maxLen:=by rw[hG];exact grownCap_le_maxLen w (n+1) a 144 (by unfold maxLen;omega)
 have O:(jA.agg #[pA lA,pA lA,aB 0]).cells.size=3:=rfl;have s:z.size=G*3:=by
  rw[q];simp only[Array.size_append,List.size_toArray,size_zeroCells,O,K];omega
 have x:jB o w.1.size z 144:=by rw[I];exact heap_alloc_new w.drew _
 have b:xB w o:=by rw[I];exact aC gD.drew bC
 have k0:DP o J f:=jB.z F b;have c0:=r.z b;have M:∀E T,(Builtin.copy_ #[33,33] E #[.slice (cA (eB w.1.size (i*3))) (n+1-i) T,qA (vB J) 1 1]).run prog o=.ok (goInt 1) (o.setCells w.1.size (i*3) (flat [f])):=λE T=>
  nQ o _ _ E 144 w.1.size (i*3) (n+1-i) T (eB J 0) 1 1 1 3 (flat [f]) underlying33 m (by simp only[Nat.min_def];split<;>omega) rfl
   (λj v d=>by rw[Addr.add_lit,Ya];exact k0.cells j v d)
   (λj d=>by obtain⟨v,F⟩:=x.there (j:=i*3+j) (by rw[s];simp[flat]at d;omega);rw[F];rfl) (λj d=>x.free _) (zG _)
 obtain⟨p,t⟩:∃p,p=o.setCells w.1.size (i*3) (flat [f]):=⟨_,rfl⟩
 rw[<-t]at M;obtain⟨Z,y,J⟩:=jB.setCells (flat [f]) (i*3) x;rw[<-t]at y;have X:kE (λk=>k=w.1.size) o p:=by rw[t];exact kE.setCells (S:=λk=>k=w.1.size) rfl _ _ (kE.refl _ _)
 have d0:=c0.keeps X (by omega);obtain⟨H,A⟩:∃H,H=flat (c.drop i):=⟨_,rfl⟩
 have P:zA H=(n-i)*3:=by rw[A,yE,Rc,hn]
 have O:∀j u,(flat c)[j]?=cA u->Y[j]?=cA u:=λj u D=>by rw[<-r.cell];exact V j u D
 have N:∀E T Y,(Builtin.copy_ #[33,33] E #[.slice (cA (eB w.1.size ((i+1)*3))) (n-i) T,.slice (cA (eB g (i*3))) (n-i) Y]).run prog p.drew=.ok (goInt ((n-i:Nat):Int)) (p.drew.setCells w.1.size ((i+1)*3) H):=λE T Y=>
  nQ p.drew _ _ E 144 w.1.size ((i+1)*3) (n-i) T (eB g (i*3)) (n-i) Y (n-i) 3 H underlying33 m (by simp only[Nat.min_def];split<;>omega) P
   (λj v d=>by
    rw[Addr.add_lit];show p.cell? _=_;rw[d0.cell];exact O _ v (by rwa [A,oU c i j (by omega)]at d))
   (λj d=>by obtain⟨v,F⟩:=y.there (j:=(i+1)*3+j) (by rw[J,s];omega);show(p.cell? _).isSome=eA;rw[F];rfl) (λj d=>y.free _) (by rw[A];exact zG _)
 obtain⟨Y,l⟩:∃Y,Y=p.drew.setCells w.1.size ((i+1)*3) H:=⟨_,rfl⟩
 rw[<-l]at N;obtain⟨cur3,U,j0⟩:=jB.setCells H ((i+1)*3) (show jB p.drew w.1.size Z 144 from y);rw[<-l]at U;have Z:cB (xB w Y):=by
  have k3:kE (λk=>k=w.1.size) o Y:=by rw[l];exact kE.setCells (S:=λk=>k=w.1.size) rfl _ _ X.drew
  exact b.trans (k3.below (λk e=>by omega) b.size)
 have HO:cB (Y.ownsRow B 144 3 (qA (vB w.1.size) (n+1) G) (n+1) (flat (mM c i f))):=by
  refine xR hBs U h a0 (by rw[j0,J,s]) (by rw[yE,cO _ _ _ (by omega),hn]) (UY hn (by omega) ?_ ?_ ?_);intro j u d D;rw[l,fA.cell?_setCells_out w.1.size H ((i+1)*3) _ _ (λ_ _=>Ca (by show j<_;omega))];show p.cell? _=_;rw[t,fA.cell?_setCells_out w.1.size (flat [f]) (i*3) o _ (λ_ _=>Ca d),x.cell,q];rw[<-mQ c i j (by omega) d]at D;rw[Array.append_assoc,Array.getElem?_append_left (by simp[K];omega)];simpa using D;intro j u D;have d:=(Pb.1 D).1;have h:j<3:=d;rw[l,fA.cell?_setCells_out w.1.size H ((i+1)*3) _ _ (λ_ _=>Ca (by show i*3+j<_;omega))];show p.cell? _=_;rw[t,fA.cell?_setCells_in w.1.size (flat [f]) (i*3) o (λk h=>by obtain⟨v,F⟩:=x.there (j:=i*3+k) (by rw[s];simp[flat]at h;omega);rw[F];rfl) j d,<-D,Va];intro j u D;rw[<-A]at D;have d:=(Pb.1 D).1;rw[l,fA.cell?_setCells_in w.1.size H ((i+1)*3) p.drew (λk h=>by obtain⟨v,F⟩:=y.there (j:=(i+1)*3+k) (by rw[J,s];omega);show(p.cell? _).isSome=eA;rw[F];rfl) j d,<-D,Va]
 have h:(a:Int)<(n:Int)+1:=by omega
 have h:IntKind.i64.wrap ((i:Int)+1)=(i:Int)+1:=by rw[IntKind.wrap_i64];omega
 have h:(0:Int)<=(i:Int)+1:=by omega
 have h:i<=n:=by omega
 have h:((i:Int)+1).toNat=i+1:=by omega
 have h:(i:Int)<=(n:Int)+1:=by omega
 have h:(i:Int)+1<=(n:Int)+1:=by omega
 have h:¬(G=i):=by omega
 have h:¬(G=i+1):=by omega
 have h:¬(a=i):=by omega
 have h:(i:Int)<=(a:Int):=by omega
 have h:(a:Int)<=9223372036854775807:=by unfold maxLen at b0;omega
 clear R r V O F k0 hsz J j0 A P I t l l0 m b0 x y U c0 d0 X b s q hG a0 Q g0 W K hgw;go_enter func229,ntmps229;go_wp2_with(first
  |(at_builtin;refine Lib.wpList_append_run _ rfl _ _ _ _ rfl _ _ rfl rfl _ _ (hrz _) ?_)
  |(at_builtin;refine wpList_copy_runI _ rfl _ _ 33 33 rfl _ _ rfl rfl (M _ _) ?_))
 go_region_law (refine step_copy_runI rfl _ _ 33 33 rfl _ _ (by simp[Act.eval,Act.put]) (by simp[Act.eval,Act.put]) (N _ _ _) ?_)
 go_wp2;go_ret;exact⟨G,rfl,HO.o,Z.o⟩
def nx(B t:Nat)(v:jA)(a:List iB)(f:iB)(w:fA)(d:w.ownsRow B 144 3 v (zA a) (flat a))(G:DP w t f)(F:zA a<=1048576)(o:B<=w.1.size):
 iA prog 229 #[v,aB (zA a),qA (vB t) 1 1] w λe I=>
  ∃x,e=vA x/\I.ownsRow B 144 3 x (zA a+1) (flat (mM a (zA a) f))/\kE (λk=>v.ownBlock=cA k) w I/\(x.ownBlock=v.ownBlock\/x.ownBlock=cA w.1.size):=by
 obtain⟨H,p,q,r,s⟩:=sL;have i:cB (∀j u,(flat [f])[j]?=cA u->w.cell? (((eB t 0):Addr).add j)=cA u):=λj u N=>by
  rw[Addr.add_lit,Ya];exact G.cells j u N
 have z:cB (flat (mM a (zA a) f)=flat a++flat [f]):=by
  show _=_;rw[UX];simp[flat]
 have D:cB (w.ownsRow B 144 3 v (zA a) (flat a)):=d;have C:cB _:=p;clear G p;obtain⟨rfl,K⟩|⟨g,m,J,rfl,P,L,M,y,_⟩:=d.2
 .obtain rfl:a=[]:=Nb.1 K;clear d;go_enter func229,ntmps229;go_wp2_with(at_builtin;refine wpList_append_own_at _ rfl _ _ _ rfl B 144 H _ 3 40 underlying33 C.o q r s rfl (by omega) (qA aA 0 0) 0 [] rfl D.o (eB t 0) 1 1 (flat [f]) rfl rfl i.o (zG _) (by simp[maxLen]) (by omega) o ?_;intro A O c b _ l);go_ret;exact⟨A,rfl,c,kE.grown b λg h=>h,l⟩
 have E:(m:Int)<=9223372036854775807:=by unfold maxLen at y;omega
 clear d L;generalize Q:zA a=n at *;go_enter func229,ntmps229;go_wp2_with(at_builtin;refine wpList_append_own_at _ rfl _ _ _ rfl B 144 H _ 3 40 underlying33 C.o q r s rfl (by omega) (qA (vB g) n m) n (flat a) rfl D.o (eB t 0) 1 1 (flat [f]) rfl rfl i.o (zG _) (by simp[maxLen];omega) (by omega) o ?_;intro A O c b _ l);all_goals(go_ret;rw[z.o];exact⟨A,rfl,c,kE.grown b λg h=>h,l⟩)
def OY(B h i:Nat)(v:jA)(b:List iB)(f:iB)(w:fA)(a:w.ownsRow B 144 3 v (zA b) (flat b))(p:DP w h f)(q:v.ownBlock≠cA h)(D:i<=zA b)(c:zA b<=1048576)(j:B<=w.1.size):
 iA prog 229 #[v,aB i,qA (vB h) 1 1] w λe m=>
  ∃l,e=vA l/\m.ownsRow B 144 3 l (zA b+1) (flat (mM b i f))/\kE (λk=>v.ownBlock=cA k) w m/\(l.ownBlock=v.ownBlock\/l.ownBlock=cA w.1.size):=by
 by_cases u:i=zA b
 .subst u;exact nx B h v b f w a p c j
 obtain⟨rfl,z⟩|⟨g,d,s,rfl,A,C,x,t,_⟩:=a.2;omega
 by_cases y:zA b+1<=d
 .refine (YM B g d i h b f w a p (λe=>q (by rw[e];rfl)) (by omega) y c).mono ?_;rintro e m ⟨rfl,n,o⟩;exact⟨_,rfl,n,o.mono (λk e=>by subst e;rfl),Ca rfl⟩
 refine (fh B g d i h b f w a p (by omega) (by omega) c j).mono ?_;rintro e m ⟨r,rfl,n,o⟩;exact⟨_,rfl,n,kE.of o,La rfl⟩
def ZI{w:fA}{B g a:Nat}{b:Array jA}{e:kA}{fs:List iB}(c:B<=g)(h:jB w g b e)(f:zA fs<=a)(d:a<=maxLen)(k:b.size=a*3)(i:∀j(m:j<zA fs),cI b 0 j fs[j]):
 w.ownsRow B e 3 (qA (vB g) (zA fs) a) (zA fs) (flat fs):=
 xR c h f d k (yE fs) λj u l=>by
  have:=qO (kX h i) j u l;rwa [Addr.add_lit,Ya]at this
def iK{w:fA}{B g b:Nat}{e:kA}{c:List iB}(h:w.ownsRow B e 3 (qA (vB g) (zA c) b) (zA c) (flat c)):
 ∃a,B<=g/\jB w g a e/\zA c<=b/\b<=maxLen/\a.size=b*3/\∀j(m:j<zA c),cI a 0 j c[j]:=by
 obtain⟨a,q,_,l,s,r,t,d⟩:=tR h;refine⟨a,q,l,s,r,t,λj m=>?_⟩;obtain⟨n,o,p⟩:=flat_get c j m;have f:=d _ _ n;have i:=d _ _ o;have k:=d _ _ p;rw[l.cell]at f i k;exact⟨by rw[Ya];exact f,by rw[Ya];exact i,by rw[Ya];exact k⟩
def wC.slice{w:fA}{B D:Nat}{b:List iB}{c k d i:Int}{f:Bool}{v:jA}(h:wC w B D b c k d i f v)(m:0<zA b):∃g a,v=qA (vB g) (zA b) a/\g≠D/\B<=g:=by
 obtain⟨_,l⟩|⟨g,a,e,rfl,j,_⟩:=h.row.2;omega;exact ⟨g,a,rfl,h.apart g rfl,j⟩
def wC.size{w:fA}{B D:Nat}{e:List iB}{c k a d:Int}{b:Bool}{v:jA}(h:wC w B D e c k a d b v):B<=w.1.size:=by
 have:=bB h.blk;have:=h.from';omega
def wC.cell4{w:fA}{B D:Nat}{e:List iB}{c k a d:Int}{b:Bool}{v:jA}(h:wC w B D e c k a d b v):w.cell? (eB D 4)=cA v:=by
 have:=h.blk.cell 4;simpa using this
def wC.cell5{w:fA}{B D:Nat}{e:List iB}{c k a d:Int}{b:Bool}{v:jA}(h:wC w B D e c k a d b v):w.cell? (eB D 5)=cA (aB c):=by
 have:=h.blk.cell 5;simpa using this
def wC.files{w:fA}{B D:Nat}{d:List iB}{c k e g:Int}{f:Bool}{v:jA}(h:wC w B D d c k e g f v):∃a b,v=qA a (zA d) b/\uB w a d:=by
 obtain⟨a,b,rfl,i⟩:=qH h.row;exact⟨a,b,rfl,i.files⟩
def wC.put{w p:fA}{B D g d i:Nat}{b:List iB}{f:iB}{c k q s:Int}{r:Bool}{a:Array jA}(h:wC w B D b c k q s r (qA (vB g) (zA b) d))(l:sD g w p)
(x:jB p g a 144)(A:a.size=d*3)(z:∀m(t:m<zA b),cI a 0 m (if m=i then f else b[m])):wC p B D (b.set i f) c k q s r (qA (vB g) (zA b) d):=by
 obtain⟨u,v,_,y,t,_,_⟩:=iK h.row;refine⟨h.from',jB.keeps h.blk (kE.but l) (λe=>h.apart g rfl e.symm),?_,h.apart⟩;have e:zA (b.set i f)=zA b:=Pd ..;have:=ZI (fs:=b.set i f) v x (by rw[e];exact y) t A (λj C=>by
  have o:=z j (by omega);rw[List.getElem_set];by_cases n:j=i
  .subst n;simpa using o
  rw[Ja n]at o;rw[Ja (Ne.symm n)];exact o)
 rw[e]at this;rw[e];exact this
def aAk(b o:Nat)(c:Array jA)(t:kA)(d x:pB)(w:fA)(f:jB w b c t)(g:c[o+1]?=cA (pA d))(j:d.size+x.size<=4000000000):
 iA prog 230 #[tA (cA (eB b o)),pA x] w λe i=>e=vA (yA #[])/\i=w.setCell (eB b (o+1)) (pA (d++x)):=by
 have h:=f.cell (o+1);rw[g]at h;have a:=f.free (o+1);clear f g;go_enter func230,ntmps230;go_wp2;go_end0;exact⟨rfl,rfl⟩
def aEy{b:Array jA}{a:List iB}{i:Nat}(l:i<zA a)(h:∀m(c:m<zA a),cI b 0 m a[m])(x:pB)(s:Int):
 ∀m(c:m<zA a),cI ((b.setIfInBounds (i*3+1) (pA x)).setIfInBounds (i*3+2) (aB s)) 0 m (if m=i then⟨a[i].N,x,s⟩ else a[m]):=by
 intro m c;by_cases e:m=i
 .subst e;rw[Ma rfl];obtain⟨g,j,k⟩:=h m c;have d:=(Vb.1 j).1;have f:=(Vb.1 k).1;rw[Ya]at d f;refine⟨?_,?_,?_⟩
  .rw[Ea (by omega),Ea (by omega)];exact g
  .rw[Ya,Ea (by omega)];simp[d]
  rw[Ya];simp[f]
 rw[Ja e];exact((h m c).set (by omega) _).set (by omega) _
def zq{b:Array jA}{a:List iB}{i:Nat}(d:i<zA a)(h:∀m(c:m<zA a),cI b 0 m a[m])(x:pB):
 ∀m(c:m<zA a),cI (b.setIfInBounds (i*3+1) (pA x)) 0 m (if m=i then⟨a[i].N,x,a[i].Y⟩ else a[m]):=by grind [cI]
def zr{b:Array jA}{a:List iB}{i:Nat}(d:i<zA a)(h:∀m(c:m<zA a),cI b 0 m a[m])(s:Int):
 ∀m(c:m<zA a),cI (b.setIfInBounds (i*3+2) (aB s)) 0 m (if m=i then⟨a[i].N,a[i].data,s⟩ else a[m]):=by grind [cI]
def aq(b o:Nat)(a:Array jA)(t:kA)(d:pB)(s:Int)(w:fA)(f:jB w b a t)(c:a[o+1]?=cA (pA d))(g:yB s 0 d.size=dA):
 cF 183 #[tA (cA (eB b o)),aB s] w (nH 6):=by
 have j:=f.cell (o+1);rw[c]at j;have i:cB _:=g;clear f c g;go_enter func183,ntmps183;go_wp2_with fail;apply jC (iO i.o _);rintro h rfl;go_wp2;go_ret;exact⟨rfl,gD⟩
def kr(b o:Nat)(c:Array jA)(t:kA)(d:pB)(s:Int)(w:fA)(j:jB w b c t)(k:c[o+1]?=cA (pA d))(p:o+2<c.size)(l:yB s 0 d.size=eA)(B:d.size<=1000000000):
 iA prog 183 #[tA (cA (eB b o)),aB s] w λe i=>e=vA (nH 0)/\sD b w i/\
  jB i b ((c.setIfInBounds (o+1) (pA (d.extract 0 s.toNat))).setIfInBounds (o+2) (aB s)) t:=by
 have z:=j.cell (o+1);rw[k]at z;have a:=j.free (o+1);have y:cB _:=l;have g:0<=s/\s<=d.size:=by simpa[yB]using l
 obtain⟨g,A⟩:=g;have n:cB (jB w b c t):=j;have r:cB _:=(Vb.1 k).1;have u:cB _:=p;clear j k l p;go_enter func183,ntmps183;go_wp2_with fail;apply jC (iO y.o _);rintro i rfl;go_wp2_with fail;refine jC (kj b o _ t (d.extract 0 s.toNat) _ (n.o.set (o+1) (pA (d.extract 0 s.toNat))) (by have:=r.o;simp[Eb];omega) (by have:=u.o;simp;omega)) ?_;intro m f;have v:cB (sD b i m):=by show sD b i m;rw[f];exact((sD.refl _ _).setCell _ _).setCell _ _
 have q:cB (((d.extract 0 s.toNat).size:Int)=s):=by show _=_;rw[Je];omega
 have x:cB (jB m b ((c.setIfInBounds (o+1) (pA (d.extract 0 s.toNat))).setIfInBounds (o+2) (aB s)) t):=by
  have h:=(n.o.set (o+1) (pA (d.extract 0 s.toNat))).set (o+2) (aB ((d.extract 0 s.toNat).size:Nat));show jB _ _ _ _;rw[f];rw[q.o]at h |-
  exact h
 clear f;go_wp2;go_ret;exact⟨rfl,v.o,x.o⟩
def vJ(w c:fA):Prop:=∀(b:Nat)(o:Obj),w.heap[b]?=cA o->(∀a t,o=xA a t (0,0)->t≠144/\t≠146)->c.heap[b]?=cA o
def CO{w:fA}{b:Nat}{o:Obj}(h:w.heap[b]?=cA o):b<w.1.size:=(Vb.1 h).1
def vJ.blk{w c:fA}(k:vJ w c){b:Nat}{a:Array jA}{t:kA}(h:jB w b a t)(d:t≠144)(f:t≠146):jB c b a t:=k b _ h λ_ _ e=>by cases e;exact⟨d,f⟩
def vJ.trans{a b c:fA}(h:vJ a b)(k:vJ b c):vJ a c:=λx o e d=>k x o (h x o e d) d
def vJ.of{w c:fA}(h:xB w c):vJ w c:=λb _ a _=>(h.block b (CO a)).trans a
def vJ.keeps{S:Nat->Prop}{w e:fA}(h:kE S w e)(f:∀k,S k->∃b t,jB w k b t/\(t=144\/t=146)):vJ w e:=λx o c i=>(h.block x (CO c) λj=>by
 obtain⟨d,n,g,a⟩:=f x j;obtain⟨l,m⟩:=i _ _ (Lc (c.symm.trans g));obtain a|a:=a;exact l a;exact m a).trans c
def vJ.set{w:fA}{g o:Nat}{a:Array jA}{t:kA}(b:jB w g a t)(c:t=144\/t=146)(v:jA):vJ w (w.setCell (eB g o) v):=
 vJ.keeps (S:=λk=>k=g) ((kE.refl (λk=>k=g) w).setCell (g:=g) rfl o v) (λk e=>⟨a,t,by rw[e];exact b,c⟩)
def QK{w:fA}{B:Nat}{v:jA}{n:Nat}{e:List jA}(h:w.ownsRow B 144 3 v n e):∀g,v.ownBlock=cA g->∃a,jB w g a 144:=by
 intro g b;obtain⟨rfl,_⟩|⟨f,c,a,rfl,_,d,_⟩:=h.2;simp[jA.ownBlock]at b;simp[jA.ownBlock]at b;subst b;exact⟨a,d⟩
structure cK(B:Nat)(w w':World):Prop where
 below:Below B w w'
 other:vJ w w'
def cK.trans{B:Nat}{a b c:fA}(h:cK B a b)(k:cK B b c):cK B a c:=⟨h.below.trans k.below,h.other.trans k.other⟩
def cK.of{B:Nat}{w a:fA}(h:xB w a)(b:B<=w.1.size):cK B w a:=⟨h.mono b,vJ.of h⟩
def cK.on{B:Nat}{a w b:fA}(h:cK B a w)(k:xB w b)(c:B<=w.1.size):cK B a b:=h.trans (cK.of k c)
def cK.set{B g o:Nat}{a w:fA}{b:Array jA}{t:kA}(h:cK B a w)(c:jB w g b t)(e:t=144\/t=146)(d:B<=g)(v:jA):cK B a (w.setCell (eB g o) v):=
 ⟨h.below.setCell (by show B<=g;exact d) _,h.other.trans (vJ.set c e v)⟩
def cK.but{B g:Nat}{a w c:fA}{b:Array jA}{t:kA}(h:cK B a w)(k:sD g w c)(f:jB w g b t)(l:t=144\/t=146)(i:B<=g)(d:B<=w.1.size):cK B a c:=
 ⟨h.below.trans (k.below i d),h.other.trans (vJ.keeps (kE.but k) (λj e=>⟨b,t,by rw[e];exact f,l⟩))⟩
def cK.charge{B D:Nat}{g:List iB}{c k d f:Int}{e:Bool}{v:jA}{w b:fA}{o:Obj}(h:wC w B D g c k d f e v)(i:B<=w.1.size)(a:sD D (w.alloc o) b):cK B w b:=
 (cK.of (zF w o) i).but a (h.z (zF w o)).blk (La rfl) h.from' (by simp;omega)
def wC.turn{w i:fA}{B D:Nat}{j a:List iB}{c k d f:Int}{e:Bool}{v b:jA}(h:wC w B D j c k d f e v)(m:jB i D #[aB k,aB d,aB f,sA e,b,aB c] 146)
(n:i.ownsRow B 144 3 b (zA a) (flat a))(l:∀g,b.ownBlock=cA g->g≠D):wC i B D a c k d f e b:=⟨h.from',m,n,l⟩
def BD{w:fA}{B:Nat}{e:kA}{a:Nat}{v:jA}{n:Nat}{j:List jA}(h:w.ownsRow B e a v n j){D:Nat}(m:∀g,v.ownBlock=cA g->g≠D)(o:Nat)(u:jA):(w.setCell (eB D o) u).ownsRow B e a v n j:=by
 obtain⟨k,d⟩:=h;refine⟨k,?_⟩;obtain d|⟨g,b,c,i,l,p,r⟩:=d;exact Ca d;have f:=m g (by rw[i];rfl);exact La ⟨g,b,c,i,l,(Below.heap_setCell w (eB D o) u g f).trans p,r⟩
def QM(B D i:Nat)(b:List iB)(c k n p:Int)(o:Bool)(v:jA)(w:fA)(h:wC w B D b c k n p o v)(x:i<zA b)(l:zA b<=1048576):
 iA prog 185 #[.pointer (vB D),aB i] w λe z=>
  e=vA (yA #[])/\∃y,wC z B D (b.eraseIdx i) c k n p o y/\y.ownBlock=v.ownBlock/\kE (λk=>k=D\/v.ownBlock=cA k) w z:=by
 obtain⟨g,f,rfl,q,H⟩:=h.slice (by omega);have J:=h.cell4;have m:cB _:=h;have I:IntKind.i64.wrap ((i:Int)+1)=(i:Int)+1:=by rw[IntKind.wrap_i64];omega
 clear h;go_enter func185,ntmps185;go_wp2_with fail;apply jC (mn B g f i b _ m.o.row x l);rintro u ⟨j,r⟩;have d:=m.o.blk.keeps r (λe=>q e.symm);have F:=d.cell 4;have a:=d.free 4;simp only[Xb,Ob,Ga]at F;have E:cB (u.ownsRow B 144 3 (qA (vB g) (zA b-1) f) (zA b-1) (flat (b.eraseIdx i))):=j;have C:cB _:=r;have A:cB (jB u D #[aB k,aB n,aB p,sA o,qA (vB g) (zA b) f,aB c] 146):=d;clear j r d;go_wp2;go_end0;refine⟨rfl,qA (vB g) (zA b-1) f,m.o.turn ?_ ?_ (λG e=>by simp[jA.ownBlock]at e;omega),rfl,?_⟩
 .have:=A.o.set 4 (qA (vB g) (zA b-1) f);simpa using this
 .have e:zA (b.eraseIdx i)=zA b-1:=by rw[Ad,Ma x]
  rw[e];exact BD E.o (λG e=>by simp[jA.ownBlock]at e;omega) _ _
 have s:kE (λt=>t=D\/(jA.slice (vB g) (zA b) f).ownBlock=cA t) w u:=C.o.mono (λt e=>La (by subst e;rfl));exact s.setCell (Ca rfl) _ _
def WZ(B D i:Nat)(a:List iB)(c k o q:Int)(p:Bool)(v:jA)(x:pB)(w:fA)(h:wC w B D a c k o q p v)(I:i<zA a)(M:zA a<=1048576)(N:(pC a:Int)<=c)(m:c<=1000000000):
 iA prog 181 #[.pointer (vB D),aB i,pA x] w λe u=>
  ((c<pC a+x.size/\e=vA (nH 3)/\wC u B D a c k o q p v)\/(pC a+x.size<=c/\e=vA (nH 0)/\wC u B D (a.set i ⟨a[i].N,a[i].data++x,a[i].Y⟩) c k o q p v))/\cK B w u:=by
 obtain⟨g,n,rfl,V,S⟩:=h.slice (by omega);obtain⟨Z,J,F,l⟩:=h.files;have K:=kC.cells h.cell4;have L:=kC.cells h.cell5;have s:=kC.there w;have A:cB _:=h;have P:cB (uB w (vB g) a):=by
  simp only[jA.slice.injEq]at F;obtain⟨rfl,_⟩:=F;exact l
 have Y:IntKind.i64.wrap (c-(pC a:Int))=c-(pC a:Int):=by rw[IntKind.wrap_i64];omega
 have j:cB (∀x:kC w,uB x.w' (vB g) a):=λx=>P.o.z x.h;have f:cB (∀x:kC w,wC x.w' B D a c k o q p (qA (vB g) (zA a) n)):=λx=>A.o.z x.h;have r:zA a<=maxLen:=by simp[maxLen];omega
 have t:pC a<=1000000000:=by omega
 clear h F l;by_cases h:c-(pC a:Int)<(x.size:Int)
 .go_enter func181,ntmps181;go_wp2_with fail;refine zB (by kernel_rfl) (by kernel_rfl) ?_;repeat (go_big_quiet_step (first|(go_at_call 61;exact oC (dK _ _ _ _ (j.o _) r t))))
  refine wpQuiet_nil ?_;rintro _ ⟨y,rfl⟩;have C:cB _:=y.h;have z:cB _:=f.o y;have G:=A.o.size;clear K L s f j;generalize y.w'=W at *;clear y;go_wp2;go_ret;exact⟨Ca ⟨by omega,rfl,z.o⟩,cK.of C.o G⟩
 go_enter func181,ntmps181;go_wp2_with fail;refine zB (by kernel_rfl) (by kernel_rfl) ?_;repeat (go_big_quiet_step (first|(go_at_call 61;exact oC (dK _ _ _ _ (j.o _) r t))))
 refine wpQuiet_nil ?_;rintro _ ⟨y,rfl⟩;have C:cB _:=y.h;have z:cB _:=f.o y;have G:=A.o.size;have h:=(f.o y).cell4;clear K L s f j;generalize y.w'=W at *;clear y;obtain⟨E,_,d,X,T,H,b⟩:=iK z.o.row;have m:=(b i I).2.1;rw[Ya]at m;have U:a[i].data.size<=pC a:=by
  have h:=kI a i I;have h:=xH a (i+1);omega
 have R:cB (iA prog 230 #[tA (cA (eB g (i*3))),pA x] W λe u=>e=vA (yA #[])/\u=W.setCell (eB g (i*3+1)) (pA (a[i].data++x))):=aAk g (i*3) E 144 a[i].data x W d m (by omega);have Q:cB (wC (W.setCell (eB g (i*3+1)) (pA (a[i].data++x))) B D (a.set i ⟨a[i].N,a[i].data++x,a[i].Y⟩) c k o q p (qA (vB g) (zA a) n)):=
  z.o.put ((sD.refl _ _).setCell _ _) (d.set _ _) (by simp[H]) (zq I b _)
 have O:cB (cK B w (W.setCell (eB g (i*3+1)) (pA (a[i].data++x)))):=(cK.of C.o G).set d (Ca rfl) (by omega) _;clear d b m;go_wp2_with fail;apply jC R.o;rintro h rfl;go_wp2;go_ret;exact⟨La ⟨by omega,rfl,Q.o⟩,O.o⟩
def cK.removed{w d:fA}{B D:Nat}{l:List iB}{c k f j:Int}{i:Bool}{v:jA}(h:wC w B D l c k f j i v)(b:kE (λk=>k=D\/v.ownBlock=cA k) w d):cK B w d:=
 ⟨b.below (λg e=>by
  obtain e|e:=e
  .rw[e];exact h.from'
  .exact uH h.row g e) h.size,vJ.keeps b (λg e=>by
  obtain e|e:=e;rw[e];exact⟨_,_,h.blk,La rfl⟩;obtain ⟨a,m⟩:=QK h.row g e;exact⟨a,_,m,Ca rfl⟩)⟩
def wC.inserted{w l:fA}{B D i:Nat}{d:List iB}{f:iB}{c k p r:Int}{q:Bool}{v a:jA}(h:wC w B D d c k p r q v)(x:i<=zA d)
(y:l.ownsRow B 144 3 a (zA d+1) (flat (mM d i f)))(o:kE (λk=>v.ownBlock=cA k) w l)(n:a.ownBlock=v.ownBlock\/a.ownBlock=cA w.1.size):
 wC (l.setCell (eB D 4) a) B D (mM d i f) c k p r q a/\cK B w (l.setCell (eB D 4) a):=by
 have z:=bB h.blk;have j:∀g,a.ownBlock=cA g->g≠D:=λg b=>by
  obtain e|e:=n;exact h.apart g (by rw[<-e];exact b);rw[e]at b;simp at b;omega
 have s:=h.blk.keeps o (λe=>h.apart D e rfl);refine⟨⟨h.from',?_,?_,j⟩,?_⟩;have:=s.set 4 a;simpa using this;rw[cO d i f x];exact BD y j _ _;have t:cK B w l:=⟨o.below (λg b=>uH h.row g b) h.size,vJ.keeps o (λg b=>by
  obtain⟨m,u⟩:=QK h.row g b;exact⟨m,_,u,Ca rfl⟩)⟩
 exact t.set s (La rfl) h.from' _
def mj(B D:Nat)(d:List iB)(c k A E:Int)(C:Bool)(v:jA)(m:pB)(w:fA)(h:wC w B D d c k A E C v)(n:lT d)(r:zA d<=1048576):
 iA prog 180 #[.pointer (vB D),pA m] w λe G=>∃i F,nT d m i/\cK B w G/\
  ((yH d m i=eA/\e=vA (nH 5)/\wC G B D d c k A E C F)\/(yH d m i=dA/\1000<=zA d/\e=vA (nH 3)/\wC G B D d c k A E C F)\/
    (yH d m i=dA/\zA d<1000/\e=vA (nH 0)/\wC G B D (mM d i ⟨m,lA,0⟩) c k A E C F)):=by
 obtain⟨a,u,rfl,p⟩:=h.files;have R:=h.cell4;have K:cB _:=h;have O:cB (uB w a d):=p;have N:cB (lT d):=n;clear h p n;go_enter func180,ntmps180;go_wp2_with fail;refine(iW a u d m _ O.o N.o r).mono ?_;rintro e M ⟨i,J,rfl,t⟩;have H:cB (nT d m i):=J;have q:=J.1;have f:cB _:=K.o.z t;have s:cB _:=cK.of t K.o.size;have S:=f.o.cell4;clear R t J;cases hq:yH d m i with
 |true=>
  have z:cB _:=hq;clear hq;go_wp2;go_ret;exact⟨i,_,H.o,s.o,Ca ⟨z.o,rfl,f.o⟩⟩
 |false=>
  have z:cB _:=hq;clear hq;by_cases V:(1000:Int)<=(zA d:Int)
  .go_wp2;go_ret;exact⟨i,_,H.o,s.o,La (Ca ⟨z.o,by omega,rfl,f.o⟩)⟩
  go_wp2_with fail;have g:=f.o.z (zF M (xA #[pA m,pA lA,aB 0] 144));refine(OY B M.1.size i (qA a (zA d) u) d ⟨m,lA,0⟩ _ g.row (heap_alloc_new _ _) (λe=>by have:=eH f.o.row _ e;omega) q r g.size).mono ?_;rintro e W ⟨F,rfl,l,I,x⟩;obtain⟨y,o⟩:=g.inserted q l I x;have j:=g.blk.keeps I (λe=>g.apart D e rfl);obtain⟨U,L,rfl⟩:=iZ l;have T:=j.cell 4;have b:=j.free 4;simp only[Xb,Ob,Ga]at T;have P:cB _:=y;have Q:cB _:=(s.o.on bC f.o.size).trans o;clear y o j l I x g S;go_wp2;go_ret;exact⟨i,_,H.o,Q.o,La (La ⟨z.o,by omega,rfl,P.o⟩)⟩
def zt{a:Array jA}{b:List iB}{i:Nat}(d:i<zA b)(h:∀m(c:m<zA b),cI a 0 m b[m])(f:iB):
 ∀m(c:m<zA b),cI (((a.setIfInBounds (i*3) (pA f.N)).setIfInBounds (i*3+1) (pA f.data)).setIfInBounds (i*3+2) (aB f.Y)) 0 m (if m=i then f else b[m]):=by grind [cI]
def pq(B D i:Nat)(b:List iB)(c k H J:Int)(I:Bool)(v:jA)(m:pB)(w:fA)(h:wC w B D b c k H J I v)(hi:i<zA b)(y:lT (b.eraseIdx i))(V:zA b<=1048576):
 iA prog 184 #[tA (cA ⟨D,0,aA⟩),.int oA i,pA m] w λe w'=>e=vA (yA #[])/\∃j v',nT (b.eraseIdx i) m j/\cK B w w'/\
  ((yH (b.eraseIdx i) m j=eA/\wC w' B D ((b.eraseIdx i).set j ⟨m,b[i].data,b[i].Y⟩) c k H J I v')\/(yH (b.eraseIdx i) m j=dA/\wC w' B D (mM (b.eraseIdx i) j ⟨m,b[i].data,b[i].Y⟩) c k H J I v')):=by
 obtain⟨g,cap,rfl,hgD,hBg⟩:=h.slice (by omega);obtain⟨cur,_,a,hnc,hcm,hcs,f⟩:=iK h.row;obtain⟨r0,r1,r2⟩:=f i hi;rw[Ya]at r0 r1 r2;have c0:=a.cell (i*3);have c1:=a.cell (i*3+1);have c2:=a.cell (i*3+2);rw[r0]at c0;rw[r1]at c1;rw[r2]at c2;have d4:=h.cell4;have Z:cB _:=h;have HA:cB (lT (b.eraseIdx i)):=y;have hgl:=bB a;have hDl:=bB h.blk;clear h y a f r0 r1 r2;go_enter func184,ntmps184;go_wp2_with fail;apply jC (QM B D i b c k H J I _ _ (Z.o.z (zF w (xA #[pA m,pA b[i].data,.int oA b[i].Y] 144))) hi V);rintro w1 ⟨v1,p,W,hk⟩;have N:cB (jB w1 w.1.size #[pA m,pA b[i].data,.int oA b[i].Y] 144):=jB.keeps (heap_alloc_new _ _) hk (λe=>by
  obtain e|e:=e;omega;simp[jA.ownBlock]at e;omega)
 have L:cB _:=(cK.of bC Z.o.size).trans (cK.removed (Z.o.z bC) hk);have U:zA (b.eraseIdx i)<=1048576:=by rw[Ad,Ma hi];omega
 have X:v1.ownBlock=cA g:=W;obtain⟨G,l,rfl,z⟩:=p.files;have P:cB _:=X;have E:cB _:=p;have O:cB (uB w1 G (b.eraseIdx i)):=z;have e4:=p.cell4;clear c0 c1 c2 d4 p hk z W X;generalize T:b.eraseIdx i=o at *;go_wp2_with fail;refine(iW G l o m _ O.o HA.o U).mono ?_;rintro e K ⟨j,hp,rfl,t⟩;have HP:cB (nT o m j):=hp;have A:=hp.1;have d:cB _:=E.o.z t;have M:cB _:=L.o.on t E.o.size;have r:cB (jB K w.1.size #[pA m,pA b[i].data,.int oA b[i].Y] 144):=N.o.z t;have g4:=d.o.cell4;have x0:=r.o.cell 0;have x1:=r.o.cell 1;have x2:=r.o.cell 2;simp only[Xb,Ob,Ga]at x0 x1 x2;clear e4 t hp O E L N;cases hq:yH o m j with
 |true=>
  have HQ:cB _:=hq;have hjl:j<zA o:=by
   rcases Gc j (zA o) with h|h;exact h;rw[yH,Fd h]at hq;exact absurd hq (by simp)
  obtain⟨s,cap',ev,_,_⟩:=d.o.slice (by omega);obtain rfl:s=g:=by have:=P.o;rw[ev]at this;simpa[jA.ownBlock]using this
  simp only[jA.slice.injEq]at ev;obtain⟨rfl,_,rfl⟩:=ev;obtain⟨Q,_,a,hnc2,hcm2,S,f⟩:=iK d.o.row;have hsz2:j*3+2<Q.size:=by omega
  obtain⟨y0,z0⟩:=a.there (j:=j*3) (by omega);obtain⟨y1,z1⟩:=a.there (j:=j*3+1) (by omega);obtain⟨y2,z2⟩:=a.there (j:=j*3+2) (by omega);have k0:=a.free (j*3);have k1:=a.free (j*3+1);have k2:=a.free (j*3+2);have n:sD s K (((K.setCell ⟨s,j*3,aA⟩ (pA m)).setCell ⟨s,j*3+1,aA⟩ (pA b[i].data)).setCell ⟨s,j*3+2,aA⟩ (.int oA b[i].Y)):=(((sD.refl _ _).setCell _ _).setCell _ _).setCell _ _;have u:cB (wC (((K.setCell ⟨s,j*3,aA⟩ (pA m)).setCell ⟨s,j*3+1,aA⟩ (pA b[i].data)).setCell ⟨s,j*3+2,aA⟩ (.int oA b[i].Y)) B D (o.set j ⟨m,b[i].data,b[i].Y⟩) c k H J I (qA (cA ⟨s,0,aA⟩) (zA o) l)):=
   d.o.put n (((a.set (j*3) (pA m)).set (j*3+1) (pA b[i].data)).set (j*3+2) (.int oA b[i].Y)) (by simp[S]) (zt hjl f ⟨m,b[i].data,b[i].Y⟩)
  have Y:cB _:=M.o.but n a (Ca rfl) hBg d.o.size;clear hq a f n;go_wp2_with fail;go_region
  go_wp2;refine bodyPost_ret (results_none rfl _ _ _) rfl ?_;subst T;exact⟨rfl,j,_,HP.o,Y.o.on gD.drew u.o.size,Ca ⟨HQ.o,u.o.z gD.drew⟩⟩
 |false=>
  have HQ:cB _:=hq;have x:(jA.slice G (zA o) l).ownBlock≠cA D:=λe=>d.o.apart D e rfl;have hap3:(jA.slice G (zA o) l).ownBlock≠cA w.1.size:=λe=>by rw[P.o]at e;simp at e;omega
  have q:cB (wC (K.drew.alloc (xA #[pA m,pA b[i].data,.int oA b[i].Y] 144)) B D o c k H J I (qA G (zA o) l)):=(d.o.z gD.drew).z bC;clear hq;go_wp2_with fail;have hDl2:=bB d.o.blk;have hFl2:=bB r.o;go_region_with (go_at_call 229;refine(OY B K.1.size j (qA G (zA o) l) o ⟨m,b[i].data,b[i].Y⟩ _ q.o.row (heap_alloc_new _ _) (λe=>by have:=eH d.o.row _ e;omega) A U q.o.size).mono ?_;rintro e w7 ⟨v',rfl,C,F,hat⟩;obtain⟨a7,cap7,rfl⟩:=iZ C;have q4:=(q.o.blk.keeps F x).cell 4;have q5:=(q.o.blk.keeps F x).free 4;simp only[Xb,Ob,Ga]at q4)
  all_goals(
   go_wp2
   go_end0
   subst T;obtain⟨p,R⟩:=q.o.inserted A C F hat;exact⟨rfl,j,_,HP.o,((M.o.on gD.drew d.o.size).on bC d.o.size).trans R,La ⟨HQ.o,p⟩⟩)
