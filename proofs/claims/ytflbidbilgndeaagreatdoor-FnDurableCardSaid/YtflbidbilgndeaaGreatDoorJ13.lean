import Derived.Lib.AppendZerosOnto
import Derived.Test.YtflbidbilgndeaaGreatDoorJ11
set_option maxRecDepth 100000
set_option maxHeartbeats 4000000
set_option linter.defProp false
open Bool renaming true->dA,false->cA
open Option renaming some->bA,none->aA
open ByteArray renaming empty->kA
open List renaming length->yA
namespace Go.Proofs.YtflbidbilgndeaaGreatDoor
open Go renaming TypeId->jA,Value->iA,World->eA,Calls->gA
open Value renaming bool->qA,slice->pA,tuple->xA,string->oA
open Ending renaming returned->uA
open Obj renaming cells->vA
open IntKind renaming i64->mA
open Go.RowKit Tryz
def fI(k a b:Int)(c:Bool):Nat×Int×Bool:=
 if c=dA then(1,k,dA) else if k=1000000000000000 then(2,k,cA) else if a≠0/\k+1=a then(1,k+1,dA) else if b≠0/\k+1=b then(2,k+1,cA) else(0,k+1,cA)
def yj(D:Nat)(t:jA)(i j:iA)(k b c:Int)(h:Bool)(w:eA)(g:nB w D #[zA k,zA b,zA c,qA h,i,j] t)(s:0<=k)(u:k<=1000000000000000)(v:(fI k b c h).1=0):
 gA prog 185 #[.pointer (yB D)] w λe p=>e=uA .nilIface/\qD D w p/\nB p D #[zA (k+1),zA b,zA c,qA cA,i,j] t:=by
 have x:h=cA/\¬k=1000000000000000/\(b=0\/¬b=0/\¬k+1=b)/\(c=0\/¬c=0/\¬k+1=c):=by
  cases h<;>by_cases J:k=1000000000000000<;>by_cases l:b=0<;>by_cases m:k+1=b<;>by_cases n:c=0<;>by_cases o:k+1=c<;>simp_all[fI]
 obtain⟨rfl,K,q,r⟩:=x;have z:tC w D 0 (zA k):=g.cell 0;have A:tC w D 3 (qA cA):=g.cell 3;have a:=g.free 0;have d:cB (nB (w.setCell (dB D 0) (zA (k+1))) D #[zA (k+1),zA b,zA c,qA cA,i,j] t):=g.set 0 (zA (k+1));clear g v;have B:(w.setCell (dB D 0) (zA (k+1))).cell? (dB D 0)=bA (zA (k+1)):=d.o.cell 0;have C:(w.setCell (dB D 0) (zA (k+1))).cell? (dB D 1)=bA (zA b):=d.o.cell 1;have E:(w.setCell (dB D 0) (zA (k+1))).cell? (dB D 2)=bA (zA c):=d.o.cell 2;have f:=bB ((qD.refl D w).setCell 0 (zA (k+1)));have y:IntKind.i64.wrap (k+1)=k+1:=by rw[IntKind.wrap_i64];omega
 rcases q with rfl|⟨l,m⟩<;>obtain rfl|⟨n,o⟩:=r
 all_goals
  try have F:=Ub l
  try have G:=beq_false_of_ne m
  try have H:=Ub n
  try have I:=beq_false_of_ne o
  go_enter func185,ntmps185;go_wp2_with fail;go_quiet (fail)
  go_wp2_with fail;try (go_quiet (fail);go_wp2)
  go_ret;exact⟨rfl,f.o.trans (qD.of (below_drewN (below_drewN iD _) _)),d.o.z (below_drewN (below_drewN iD _) _)⟩
def pc(B g b i:Nat)(l:List iB)(w:eA)(y:w.ownsRow B 104 3 (pA (yB g) (yA l) b) (yA l) (flat l))(X:i<yA l)(Y:yA l<=1048576):
 gA prog 236 #[pA (yB g) (yA l) b,zA i,zA ((i:Int)+1)] w λe w'=>
  e=uA (pA (yB g) (yA l-1) b)/\w'.ownsRow B 104 3 (pA (yB g) (yA l-1) b) (yA l-1) (flat (l.eraseIdx i))/\lE (λk=>k=g) w w':=by
 obtain⟨K,G,_,r,h,E,C,t⟩:=lS y;obtain⟨Z,F,Q,R,h⟩:=xL;obtain⟨n,H⟩:∃n,yA l=n:=⟨_,rfl⟩
 obtain⟨a,d⟩:∃a,a=flat (l.drop (i+1)):=⟨_,rfl⟩
 have f:yA a=(n-(i+1))*3:=by rw[d,wE,Rc,H]
 have L:yA (flat l)=n*3:=by rw[wE,H]
 have m:∀j,j<n*3->(w.cell? (dB g j)).isSome=dA:=λj M=>by rw[t j _ (Va (by omega))];rfl
 obtain⟨A,h,J⟩:∃A:Addr,(if b=i+1 then bA ((dB g 0):Addr) else bA (dB g ((i+1)*3)))=bA A/\cB (∀j u,a[j]?=bA u->w.drew.cell? (A.add j)=bA u):=by
  by_cases h:b=i+1
  .refine ⟨(dB g 0),by simp[h],λj u o=>?_⟩;have I:yA a=0:=by rw[f];omega
   rw[Nb.1 I]at o;simp at o
  refine ⟨(dB g ((i+1)*3)),by simp[h],λj u o=>?_⟩;rw[d,uV l (i+1) j (by omega)]at o;rw[Addr.add_lit];exact t _ _ o
 have Y:cB _:=f;have s2:cB (∀u∈a,u.oneCell'=dA):=by rw[d];exact sG _
 have h:cB (∀j,j<yA a->(w.drew.cell? (dB g (0+i*3+j))).isSome=dA/\w.drew.frozen? (dB g (0+i*3+j))=cA):=by
  intro j M;rw[f]at M;exact⟨m _ (by omega),r.free _⟩
 obtain⟨x,p⟩:∃x,x=w.drew.setCells g (0+i*3) a:=⟨_,rfl⟩
 have s:nB w.drew g K 104:=r;obtain⟨U,q,z⟩:=nB.setCells a (0+i*3) s;rw[<-p]at q;have I:∀T c,(Builtin.clear_ #[33] T #[.slice (bA (dB g ((n-1)*3))) 1 c]).run prog x=.ok (xA #[]) (x.setCells g ((n-1)*3) BE):=λT c=>
  UU x _ T _ Z underlying33 F Q g _ c (λj M=>by obtain⟨v,I⟩:=q.there (j:=(n-1)*3+j) (by rw[z,C];omega);rw[I];rfl) (λj _=>q.free _)
 obtain⟨V,D,I⟩:=nB.setCells BE ((n-1)*3) q;have U:cB (lE (λk=>k=g) w (x.setCells g ((n-1)*3) BE)):=by
  show lE _ _ _;rw[p];exact lE.setCells (S:=λk=>k=g) rfl _ _ (lE.setCells (S:=λk=>k=g) rfl _ _ (lE.refl _ _).drew)
 have HO:cB ((x.setCells g ((n-1)*3) BE).ownsRow B 104 3 (pA (yB g) (n-1) b) (n-1) (flat (l.eraseIdx i))):=by
  refine rS G D (by omega) E (by rw[I,z,C]) (by rw[wE,Ad,Ma X,H]) λj u o=>?_;have O:=(Pb.1 o).1;rw[wE,Ad,Ma X,H]at O;rw[eA.cell?_setCells_out g BE ((n-1)*3) x _ (λ_ _=>Ca (by show j<_;omega)),p];rw[pn]at o;have P:yA (flat (l.take i))=i*3:=by rw[wE,Hb];omega
  by_cases N:j<i*3
  .rw[eA.cell?_setCells_out g a (0+i*3) _ _ (λ_ _=>Ca (by show j<_;omega))];rw[Pe (by omega),uQ l i j (by omega) N]at o;exact t j u o
  rw[Uc (by omega),P,<-d]at o;have G:=eA.cell?_setCells_in g a (0+i*3) w.drew (λk O=>(h.o k O).1) (j-i*3) (by omega);rw[show 0+i*3+(j-i*3)=j by omega]at G;rw[G,<-o,Va]
 have G:i<=b:=by omega
 have G:(0:Int)<=(i:Int)+1:=by omega
 have G:(i:Int)+1<=(n:Int):=by omega
 have G:((i:Int)+1).toNat=i+1:=by omega
 have G:¬((i:Int)=(i:Int)+1):=by omega
 have W:(b:Int)<=9223372036854775807:=by unfold maxLen at E;omega
 have G:i+(n-(i+1))=n-1:=by omega
 have G:n-(n-1)=1:=by omega
 have G:cB _:=p;rw[H];clear p y r s q D t m d L f z I C;go_enter func236,ntmps236;go_wp2_with fail;go_region_law (refine step_append_room rfl (.tmp 22) (.tmp 25) 33 rfl 104 Z 3 underlying33 F R g 0 i b (by simp[Act.eval,Act.put]) A (n-(i+1)) (b-(i+1)) a (by simp[Act.eval,Act.put]) Y.o J.o s2.o (by omega) h.o ?_;rw[<-G.o])
 go_wp2;go_ret;exact⟨rfl,HO.o,U.o⟩
def jd(B g a i J:Nat)(c:List iB)(f:iB)(w:eA)(R:w.ownsRow B 104 3 (pA (yB g) (yA c) a) (yA c) (flat c))(F:FO w J f)(I:i<yA c)(C:a<yA c+1)(W:yA c<=1048576)(hBs:B<=w.1.size):
 gA prog 234 #[pA (yB g) (yA c) a,zA i,pA (yB J) 1 1] w λe w'=>
  ∃L,e=uA (pA (yB w.1.size) (yA c+1) L)/\w'.ownsRow B 104 3 (pA (yB w.1.size) (yA c+1) L) (yA c+1) (flat (kN c i f))/\uB w w':=by
 obtain⟨U,h,_,r,h,b0,hsz,V⟩:=lS R;obtain⟨O,Y,l0,G,Z⟩:=xL;obtain⟨n,hn⟩:∃n,yA c=n:=⟨_,rfl⟩
 rw[hn]at I C W h |-
 have m:(prog.info? 104).map (·.size)=bA 3:=by rw[Y];simp[G]
 have hgw:=aB r;have g0:(n:Int)+1-(i:Int)=((n+1-i:Nat):Int):=by omega
 have W:i+(n+1-i)=n+1:=by omega
 have K:yA (flat (c.take i))=i*3:=by rw[wE,Hb];omega
 have Q:(Builtin.firstCells O.size i (pA (yB g) i a)).run prog w.drew=.ok (flat (c.take i)).toArray w.drew:=by
  rw[G];exact run_firstCells_some w.drew 3 i (dB g 0) i a (flat (c.take i)) K (λj v d=>by
   rw[Addr.add_lit,Ya];have h:=(Pb.1 d).1;rw[uQ c i j (by omega) (by omega)]at d;exact V j v d)
 obtain⟨G,hG⟩:∃G,G=grownCap w (n+1) a 104:=⟨_,rfl⟩
 obtain⟨z,q⟩:∃z:Array iA,z=(flat (c.take i)).toArray++Builtin.zeroCells (iA.agg #[oA kA,oA kA,zA 0]).cells (n+1-i)++Builtin.zeroCells (iA.agg #[oA kA,oA kA,zA 0]).cells (G-(n+1)):=⟨_,rfl⟩
 obtain⟨o,I⟩:∃o,o=w.drew.alloc (vA z 104):=⟨_,rfl⟩
 have hrz:∀E,(Builtin.append_ #[33,3] E #[pA (yB g) i a,zA ((n:Int)+1-(i:Int))]).run prog w=.ok (pA (yB w.1.size) (n+1) G) o:=λE=>by
  have h:=Lib.run_append_grow_zeros w 33 3 E 104 O _ .i64 mA underlying33 underlying3 Y l0 (yB g) i a _ Q (n+1-i) (by omega) (by omega) (by omega) (by omega) (by rw[Z];omega) (by rw[Z,W];exact growslice_fits C (by omega));rw[W,<-hG,<-q,<-I]at h;rw[g0];exact h
 have h:n+1<=G:=by rw[hG];exact grownCap_ge w _ _ _
 have a0:G<=maxLen:=by rw[hG];exact grownCap_le_maxLen w (n+1) a 104 (by unfold maxLen;omega)
 have O:(iA.agg #[oA kA,oA kA,zA 0]).cells.size=3:=rfl;have s:z.size=G*3:=by
  rw[q];simp only[Array.size_append,List.size_toArray,size_zeroCells,O,K];omega
 have x:nB o w.1.size z 104:=by rw[I];exact heap_alloc_new w.drew _
 have b:uB w o:=by rw[I];exact vB iD.drew zB
 have k0:FO o J f:=nB.z F b;have c0:=r.z b;have M:∀E T,(Builtin.copy_ #[33,33] E #[.slice (bA (dB w.1.size (i*3))) (n+1-i) T,pA (yB J) 1 1]).run prog o=.ok (goInt 1) (o.setCells w.1.size (i*3) (flat [f])):=λE T=>
  xQ o _ _ E 104 w.1.size (i*3) (n+1-i) T (dB J 0) 1 1 1 3 (flat [f]) underlying33 m (by simp only[Nat.min_def];split<;>omega) rfl
   (λj v d=>by rw[Addr.add_lit,Ya];exact k0.cells j v d)
   (λj d=>by obtain⟨v,F⟩:=x.there (j:=i*3+j) (by rw[s];simp[flat]at d;omega);rw[F];rfl) (λj d=>x.free _) (sG _)
 obtain⟨p,t⟩:∃p,p=o.setCells w.1.size (i*3) (flat [f]):=⟨_,rfl⟩
 rw[<-t]at M;obtain⟨Z,y,J⟩:=nB.setCells (flat [f]) (i*3) x;rw[<-t]at y;have X:lE (λk=>k=w.1.size) o p:=by rw[t];exact lE.setCells (S:=λk=>k=w.1.size) rfl _ _ (lE.refl _ _)
 have d0:=c0.keeps X (by omega);obtain⟨H,A⟩:∃H,H=flat (c.drop i):=⟨_,rfl⟩
 have P:yA H=(n-i)*3:=by rw[A,wE,Rc,hn]
 have O:∀j u,(flat c)[j]?=bA u->U[j]?=bA u:=λj u D=>by rw[<-r.cell];exact V j u D
 have N:∀E T U,(Builtin.copy_ #[33,33] E #[.slice (bA (dB w.1.size ((i+1)*3))) (n-i) T,.slice (bA (dB g (i*3))) (n-i) U]).run prog p.drew=.ok (goInt ((n-i:Nat):Int)) (p.drew.setCells w.1.size ((i+1)*3) H):=λE T U=>
  xQ p.drew _ _ E 104 w.1.size ((i+1)*3) (n-i) T (dB g (i*3)) (n-i) U (n-i) 3 H underlying33 m (by simp only[Nat.min_def];split<;>omega) P
   (λj v d=>by
    rw[Addr.add_lit];show p.cell? _=_;rw[d0.cell];exact O _ v (by rwa [A,uV c i j (by omega)]at d))
   (λj d=>by obtain⟨v,F⟩:=y.there (j:=(i+1)*3+j) (by rw[J,s];omega);show(p.cell? _).isSome=dA;rw[F];rfl) (λj d=>y.free _) (by rw[A];exact sG _)
 obtain⟨Y,l⟩:∃Y,Y=p.drew.setCells w.1.size ((i+1)*3) H:=⟨_,rfl⟩
 rw[<-l]at N;obtain⟨U,U,j0⟩:=nB.setCells H ((i+1)*3) (show nB p.drew w.1.size Z 104 from y);rw[<-l]at U;have Z:cB (uB w Y):=by
  have k3:lE (λk=>k=w.1.size) o Y:=by rw[l];exact lE.setCells (S:=λk=>k=w.1.size) rfl _ _ X.drew
  exact b.trans (k3.below (λk e=>by omega) b.size)
 have HO:cB (Y.ownsRow B 104 3 (pA (yB w.1.size) (n+1) G) (n+1) (flat (kN c i f))):=by
  refine rS hBs U h a0 (by rw[j0,J,s]) (by rw[wE,oO _ _ _ (by omega),hn]) (WX hn (by omega) ?_ ?_ ?_);intro j u d D;rw[l,eA.cell?_setCells_out w.1.size H ((i+1)*3) _ _ (λ_ _=>Ca (by show j<_;omega))];show p.cell? _=_;rw[t,eA.cell?_setCells_out w.1.size (flat [f]) (i*3) o _ (λ_ _=>Ca d),x.cell,q];rw[<-uQ c i j (by omega) d]at D;rw[Array.append_assoc,Array.getElem?_append_left (by simp[K];omega)];simpa using D;intro j u D;have d:=(Pb.1 D).1;have h:j<3:=d;rw[l,eA.cell?_setCells_out w.1.size H ((i+1)*3) _ _ (λ_ _=>Ca (by show i*3+j<_;omega))];show p.cell? _=_;rw[t,eA.cell?_setCells_in w.1.size (flat [f]) (i*3) o (λk h=>by obtain⟨v,F⟩:=x.there (j:=i*3+k) (by rw[s];simp[flat]at h;omega);rw[F];rfl) j d,<-D,Va];intro j u D;rw[<-A]at D;have d:=(Pb.1 D).1;rw[l,eA.cell?_setCells_in w.1.size H ((i+1)*3) p.drew (λk h=>by obtain⟨v,F⟩:=y.there (j:=(i+1)*3+k) (by rw[J,s];omega);show(p.cell? _).isSome=dA;rw[F];rfl) j d,<-D,Va]
 have h:(a:Int)<(n:Int)+1:=by omega
 have h:IntKind.i64.wrap ((i:Int)+1)=(i:Int)+1:=by rw[IntKind.wrap_i64];omega
 have h:(0:Int)<=(i:Int)+1:=by omega
 have h:i<=n:=by omega
 have h:((i:Int)+1).toNat=i+1:=by omega
 have h:(i:Int)<=(n:Int)+1:=by omega
 have h:(i:Int)+1<=(n:Int)+1:=by omega
 have h:¬(G=i):=by omega
 have h:¬(G=i+1):=by omega
 have h:¬(a=i):=by omega
 have h:(i:Int)<=(a:Int):=by omega
 have h:(a:Int)<=9223372036854775807:=by unfold maxLen at b0;omega
 clear R r V O F k0 hsz J j0 A P I t l l0 m b0 x y U c0 d0 X b s q hG a0 Q g0 W K hgw;go_enter func234,ntmps234;go_wp2_with(first
  |(at_builtin;refine Lib.wpList_append_run _ rfl _ _ _ _ rfl _ _ rfl rfl _ _ (hrz _) ?_)
  |(at_builtin;refine wpList_copy_runI _ rfl _ _ 33 33 rfl _ _ rfl rfl (M _ _) ?_))
 go_region_law (refine step_copy_runI rfl _ _ 33 33 rfl _ _ (by simp[Act.eval,Act.put]) (by simp[Act.eval,Act.put]) (N _ _ _) ?_)
 go_wp2;go_ret;exact⟨G,rfl,HO.o,Z.o⟩
def ql(B t:Nat)(v:iA)(a:List iB)(f:iB)(w:eA)(d:w.ownsRow B 104 3 v (yA a) (flat a))(G:FO w t f)(F:yA a<=1048576)(o:B<=w.1.size):
 gA prog 234 #[v,zA (yA a),pA (yB t) 1 1] w λe I=>
  ∃x,e=uA x/\I.ownsRow B 104 3 x (yA a+1) (flat (kN a (yA a) f))/\lE (λk=>v.ownBlock=bA k) w I/\(x.ownBlock=v.ownBlock\/x.ownBlock=bA w.1.size):=by
 obtain⟨H,p,q,r,s⟩:=xL;have i:cB (∀j u,(flat [f])[j]?=bA u->w.cell? (((dB t 0):Addr).add j)=bA u):=λj u N=>by
  rw[Addr.add_lit,Ya];exact G.cells j u N
 have z:cB (flat (kN a (yA a) f)=flat a++flat [f]):=by
  show _=_;rw[WW];simp[flat]
 have D:cB (w.ownsRow B 104 3 v (yA a) (flat a)):=d;have C:cB _:=p;clear G p;obtain⟨rfl,K⟩|⟨g,m,J,rfl,P,L,M,y,_⟩:=d.2
 .obtain rfl:a=[]:=Nb.1 K;clear d;go_enter func234,ntmps234;go_wp2_with(at_builtin;refine wpList_append_own_at _ rfl _ _ _ rfl B 104 H _ 3 40 underlying33 C.o q r s rfl (by omega) (pA aA 0 0) 0 [] rfl D.o (dB t 0) 1 1 (flat [f]) rfl rfl i.o (sG _) (by simp[maxLen]) (by omega) o ?_;intro A O c b _ l);go_ret;exact⟨A,rfl,c,lE.grown b λg h=>h,l⟩
 have E:(m:Int)<=9223372036854775807:=by unfold maxLen at y;omega
 clear d L;generalize Q:yA a=n at *;go_enter func234,ntmps234;go_wp2_with(at_builtin;refine wpList_append_own_at _ rfl _ _ _ rfl B 104 H _ 3 40 underlying33 C.o q r s rfl (by omega) (pA (yB g) n m) n (flat a) rfl D.o (dB t 0) 1 1 (flat [f]) rfl rfl i.o (sG _) (by simp[maxLen];omega) (by omega) o ?_;intro A O c b _ l);all_goals(go_ret;rw[z.o];exact⟨A,rfl,c,lE.grown b λg h=>h,l⟩)
def RA(B h i:Nat)(v:iA)(b:List iB)(f:iB)(w:eA)(a:w.ownsRow B 104 3 v (yA b) (flat b))(p:FO w h f)(q:v.ownBlock≠bA h)(D:i<=yA b)(c:yA b<=1048576)(j:B<=w.1.size):
 gA prog 234 #[v,zA i,pA (yB h) 1 1] w λe m=>
  ∃l,e=uA l/\m.ownsRow B 104 3 l (yA b+1) (flat (kN b i f))/\lE (λk=>v.ownBlock=bA k) w m/\(l.ownBlock=v.ownBlock\/l.ownBlock=bA w.1.size):=by
 by_cases u:i=yA b
 .subst u;exact ql B h v b f w a p c j
 obtain⟨rfl,z⟩|⟨g,d,s,rfl,A,C,x,t,_⟩:=a.2;omega
 by_cases y:yA b+1<=d
 .refine (ay B g d i h b f w a p (λe=>q (by rw[e];rfl)) (by omega) y c).mono ?_;rintro e m ⟨rfl,n,o⟩;exact⟨_,rfl,n,o.mono (λk e=>by subst e;rfl),Ca rfl⟩
 refine (jd B g d i h b f w a p (by omega) (by omega) c j).mono ?_;rintro e m ⟨r,rfl,n,o⟩;exact⟨_,rfl,n,lE.of o,La rfl⟩
def ct{w:eA}{B g a:Nat}{b:Array iA}{e:jA}{fs:List iB}(c:B<=g)(h:nB w g b e)(f:yA fs<=a)(d:a<=maxLen)(k:b.size=a*3)(i:∀j(m:j<yA fs),bI b 0 j fs[j]):
 w.ownsRow B e 3 (pA (yB g) (yA fs) a) (yA fs) (flat fs):=
 rS c h f d k (wE fs) λj u l=>by
  have:=aP (vR h i) j u l;rwa [Addr.add_lit,Ya]at this
def dP{w:eA}{B g b:Nat}{e:jA}{c:List iB}(h:w.ownsRow B e 3 (pA (yB g) (yA c) b) (yA c) (flat c)):
 ∃a,B<=g/\nB w g a e/\yA c<=b/\b<=maxLen/\a.size=b*3/\∀j(m:j<yA c),bI a 0 j c[j]:=by
 obtain⟨a,q,_,l,s,r,t,d⟩:=lS h;refine⟨a,q,l,s,r,t,λj m=>?_⟩;obtain⟨n,o,p⟩:=flat_get c j m;have f:=d _ _ n;have i:=d _ _ o;have k:=d _ _ p;rw[l.cell]at f i k;exact⟨by rw[Ya];exact f,by rw[Ya];exact i,by rw[Ya];exact k⟩
def kD.slice{w:eA}{B D:Nat}{b:List iB}{c k d i:Int}{f:Bool}{v:iA}(h:kD w B D b c k d i f v)(m:0<yA b):∃g a,v=pA (yB g) (yA b) a/\g≠D/\B<=g:=by
 obtain⟨_,l⟩|⟨g,a,e,rfl,j,_⟩:=h.row.2;omega;exact ⟨g,a,rfl,h.apart g rfl,j⟩
def kD.size{w:eA}{B D:Nat}{e:List iB}{c k a d:Int}{b:Bool}{v:iA}(h:kD w B D e c k a d b v):B<=w.1.size:=by
 have:=aB h.blk;have:=h.from';omega
def kD.cell4{w:eA}{B D:Nat}{e:List iB}{c k a d:Int}{b:Bool}{v:iA}(h:kD w B D e c k a d b v):w.cell? (dB D 4)=bA v:=by
 have:=h.blk.cell 4;simpa using this
def kD.cell5{w:eA}{B D:Nat}{e:List iB}{c k a d:Int}{b:Bool}{v:iA}(h:kD w B D e c k a d b v):w.cell? (dB D 5)=bA (zA c):=by
 have:=h.blk.cell 5;simpa using this
def kD.files{w:eA}{B D:Nat}{d:List iB}{c k e g:Int}{f:Bool}{v:iA}(h:kD w B D d c k e g f v):∃a b,v=pA a (yA d) b/\tB w a d:=by
 obtain⟨a,b,rfl,i⟩:=mH h.row;exact⟨a,b,rfl,i.files⟩
def kD.put{w p:eA}{B D g d i:Nat}{b:List iB}{f:iB}{c k q s:Int}{r:Bool}{a:Array iA}(h:kD w B D b c k q s r (pA (yB g) (yA b) d))(l:qD g w p)
(x:nB p g a 104)(A:a.size=d*3)(z:∀m(t:m<yA b),bI a 0 m (if m=i then f else b[m])):kD p B D (b.set i f) c k q s r (pA (yB g) (yA b) d):=by
 obtain⟨u,v,_,y,t,_,_⟩:=dP h.row;refine⟨h.from',nB.keeps h.blk (lE.but l) (λe=>h.apart g rfl e.symm),?_,h.apart⟩;have e:yA (b.set i f)=yA b:=Pd ..;have:=ct (fs:=b.set i f) v x (by rw[e];exact y) t A (λj C=>by
  have o:=z j (by omega);rw[List.getElem_set];by_cases n:j=i
  .subst n;simpa using o
  rw[Ja n]at o;rw[Ja (Ne.symm n)];exact o)
 rw[e]at this;rw[e];exact this
def aCw(b o:Nat)(c:Array iA)(t:jA)(d x:jB)(w:eA)(f:nB w b c t)(g:c[o+1]?=bA (oA d))(j:d.size+x.size<=4000000000):
 gA prog 235 #[.pointer (bA (dB b o)),oA x] w λe i=>e=uA (xA #[])/\i=w.setCell (dB b (o+1)) (oA (d++x)):=by
 have h:=f.cell (o+1);rw[g]at h;have a:=f.free (o+1);clear f g;go_enter func235,ntmps235;go_wp2;go_end0;exact⟨rfl,rfl⟩
def aCd{b:Array iA}{a:List iB}{i:Nat}(d:i<yA a)(h:∀m(c:m<yA a),bI b 0 m a[m])(x:jB):
 ∀m(c:m<yA a),bI (b.setIfInBounds (i*3+1) (oA x)) 0 m (if m=i then⟨a[i].N,x,a[i].Y⟩ else a[m]):=by grind [bI]
def aCe{b:Array iA}{a:List iB}{i:Nat}(d:i<yA a)(h:∀m(c:m<yA a),bI b 0 m a[m])(s:Int):
 ∀m(c:m<yA a),bI (b.setIfInBounds (i*3+2) (zA s)) 0 m (if m=i then⟨a[i].N,a[i].data,s⟩ else a[m]):=by grind [bI]
def vJ(w c:eA):Prop:=∀(b:Nat)(o:Obj),w.heap[b]?=bA o->(∀a t,o=vA a t (0,0)->t≠104/\t≠102)->c.heap[b]?=bA o
def vJ.blk{w c:eA}(k:vJ w c){b:Nat}{a:Array iA}{t:jA}(h:nB w b a t)(d:t≠104)(f:t≠102):nB c b a t:=k b _ h λ_ _ e=>by cases e;exact⟨d,f⟩
def vJ.trans{a b c:eA}(h:vJ a b)(k:vJ b c):vJ a c:=λx o e d=>k x o (h x o e d) d
def vJ.of{w c:eA}(h:uB w c):vJ w c:=λb _ a _=>(h.block b (aB a)).trans a
def vJ.keeps{S:Nat->Prop}{w e:eA}(h:lE S w e)(f:∀k,S k->∃b t,nB w k b t/\(t=104\/t=102)):vJ w e:=λx o c i=>(h.block x (aB c) λj=>by
 obtain⟨d,n,g,a⟩:=f x j;obtain⟨l,m⟩:=i _ _ (Lc (c.symm.trans g));obtain a|a:=a;exact l a;exact m a).trans c
def vJ.set{w:eA}{g o:Nat}{a:Array iA}{t:jA}(b:nB w g a t)(c:t=104\/t=102)(v:iA):vJ w (w.setCell (dB g o) v):=
 vJ.keeps (S:=λk=>k=g) ((lE.refl (λk=>k=g) w).setCell (g:=g) rfl o v) (λk e=>⟨a,t,by rw[e];exact b,c⟩)
def SE{w:eA}{B:Nat}{v:iA}{n:Nat}{e:List iA}(h:w.ownsRow B 104 3 v n e):∀g,v.ownBlock=bA g->∃a,nB w g a 104:=by
 intro g b;obtain⟨rfl,_⟩|⟨f,c,a,rfl,_,d,_⟩:=h.2;simp[iA.ownBlock]at b;simp[iA.ownBlock]at b;subst b;exact⟨a,d⟩
structure iN(B:Nat)(w w':World):Prop where
 below:Below B w w'
 other:vJ w w'
def iN.trans{B:Nat}{a b c:eA}(h:iN B a b)(k:iN B b c):iN B a c:=⟨h.below.trans k.below,h.other.trans k.other⟩
def iN.of{B:Nat}{w a:eA}(h:uB w a)(b:B<=w.1.size):iN B w a:=⟨h.mono b,vJ.of h⟩
def iN.on{B:Nat}{a w b:eA}(h:iN B a w)(k:uB w b)(c:B<=w.1.size):iN B a b:=h.trans (iN.of k c)
def iN.set{B g o:Nat}{a w:eA}{b:Array iA}{t:jA}(h:iN B a w)(c:nB w g b t)(e:t=104\/t=102)(d:B<=g)(v:iA):iN B a (w.setCell (dB g o) v):=
 ⟨h.below.setCell (by show B<=g;exact d) _,h.other.trans (vJ.set c e v)⟩
def iN.but{B g:Nat}{a w c:eA}{b:Array iA}{t:jA}(h:iN B a w)(k:qD g w c)(f:nB w g b t)(l:t=104\/t=102)(i:B<=g)(d:B<=w.1.size):iN B a c:=
 ⟨h.below.trans (k.below i d),h.other.trans (vJ.keeps (lE.but k) (λj e=>⟨b,t,by rw[e];exact f,l⟩))⟩
def iN.charge{B D:Nat}{g:List iB}{c k d f:Int}{e:Bool}{v:iA}{w b:eA}{o:Obj}(h:kD w B D g c k d f e v)(i:B<=w.1.size)(a:qD D (w.alloc o) b):iN B w b:=
 (iN.of (wF w o) i).but a (h.z (wF w o)).blk (La rfl) h.from' (by simp;omega)
def kD.turn{w i:eA}{B D:Nat}{j a:List iB}{c k d f:Int}{e:Bool}{v b:iA}(h:kD w B D j c k d f e v)(m:nB i D #[zA k,zA d,zA f,qA e,b,zA c] 102)
(n:i.ownsRow B 104 3 b (yA a) (flat a))(l:∀g,b.ownBlock=bA g->g≠D):kD i B D a c k d f e b:=⟨h.from',m,n,l⟩
def DD{w:eA}{B:Nat}{e:jA}{size:Nat}{v:iA}{n:Nat}{i:List iA}(h:w.ownsRow B e size v n i){D:Nat}(l:∀g,v.ownBlock=bA g->g≠D)(o:Nat)(u:iA):(w.setCell (dB D o) u).ownsRow B e size v n i:=by
 obtain⟨j,c⟩:=h;refine⟨j,?_⟩;obtain c|⟨g,a,b,f,k,m,r⟩:=c;exact Ca c;have d:=l g (by rw[f];rfl);exact La ⟨g,a,b,f,k,(Below.heap_setCell w (dB D o) u g d).trans m,r⟩
def SG(B D i:Nat)(b:List iB)(c k n p:Int)(o:Bool)(v:iA)(w:eA)(h:kD w B D b c k n p o v)(x:i<yA b)(l:yA b<=1048576):
 gA prog 190 #[.pointer (yB D),zA i] w λe z=>
  e=uA (xA #[])/\∃y,kD z B D (b.eraseIdx i) c k n p o y/\y.ownBlock=v.ownBlock/\lE (λk=>k=D\/v.ownBlock=bA k) w z:=by
 obtain⟨g,f,rfl,q,H⟩:=h.slice (by omega);have J:=h.cell4;have m:cB _:=h;have I:IntKind.i64.wrap ((i:Int)+1)=(i:Int)+1:=by rw[IntKind.wrap_i64];omega
 clear h;go_enter func190,ntmps190;go_wp2_with fail;apply lC (pc B g f i b _ m.o.row x l);rintro u ⟨j,r⟩;have d:=m.o.blk.keeps r (λe=>q e.symm);have F:=d.cell 4;have a:=d.free 4;simp only[Xb,Ob,Ga]at F;have E:cB (u.ownsRow B 104 3 (pA (yB g) (yA b-1) f) (yA b-1) (flat (b.eraseIdx i))):=j;have C:cB _:=r;have A:cB (nB u D #[zA k,zA n,zA p,qA o,pA (yB g) (yA b) f,zA c] 102):=d;clear j r d;go_wp2;go_end0;refine⟨rfl,pA (yB g) (yA b-1) f,m.o.turn ?_ ?_ (λG e=>by simp[iA.ownBlock]at e;omega),rfl,?_⟩
 .have:=A.o.set 4 (pA (yB g) (yA b-1) f);simpa using this
 .have e:yA (b.eraseIdx i)=yA b-1:=by rw[Ad,Ma x]
  rw[e];exact DD E.o (λG e=>by simp[iA.ownBlock]at e;omega) _ _
 have s:lE (λt=>t=D\/(iA.slice (yB g) (yA b) f).ownBlock=bA t) w u:=C.o.mono (λt e=>La (by subst e;rfl));exact s.setCell (Ca rfl) _ _
def fc(B D i:Nat)(a:List iB)(c k o q:Int)(p:Bool)(v:iA)(x:jB)(w:eA)(h:kD w B D a c k o q p v)(z:i<yA a)(I:yA a<=1048576)(G:c<=1000000000)(V:¬c<(pC a:Int)+x.size):
 gA prog 187 #[.pointer (yB D),zA i,oA x] w λe r=>
  e=uA .nilIface/\kD r B D (a.set i ⟨a[i].N,a[i].data++x,a[i].Y⟩) c k o q p v/\iN B w r:=by
 obtain⟨g,n,rfl,U,R⟩:=h.slice (by omega);obtain⟨Z,H,t,f⟩:=h.files;have O:=kC.cells h.cell4;have P:=kC.cells h.cell5;have C:=kC.there w;have F:cB _:=h;have K:cB (tB w (yB g) a):=by
  simp only[iA.slice.injEq]at t;obtain⟨rfl,_⟩:=t;exact f
 have Y:IntKind.i64.wrap (c-(pC a:Int))=c-(pC a:Int):=by rw[IntKind.wrap_i64];omega
 have m:cB (∀x:kC w,tB x.w' (yB g) a):=λx=>K.o.z x.h;have j:cB (∀x:kC w,kD x.w' B D a c k o q p (pA (yB g) (yA a) n)):=λx=>F.o.z x.h;have A:yA a<=maxLen:=by simp[maxLen];omega
 have E:pC a<=1000000000:=by omega
 clear h t f;have h:¬c-(pC a:Int)<(x.size:Int):=by omega
 go_enter func187,ntmps187;go_wp2_with fail;refine wB (by kernel_rfl) (by kernel_rfl) ?_;repeat (go_big_quiet_step (first|(go_at_call 66;exact oC (tL _ _ _ _ (m.o _) A E))))
 refine wpQuiet_nil ?_;rintro _ ⟨y,rfl⟩;have N:cB _:=y.h;have G:cB _:=j.o y;have Q:=F.o.size;have h:=(j.o y).cell4;clear O P C j m;generalize y.w'=W at *;clear y;obtain⟨s,_,d,X,S,u,b⟩:=dP G.o.row;have l:=(b i z).2.1;rw[Ya]at l;have T:a[i].data.size<=pC a:=by
  have h:=bK a i z;have h:=yI a (i+1);omega
 have M:cB (gA prog 235 #[.pointer (bA (dB g (i*3))),oA x] W λe r=>e=uA (xA #[])/\r=W.setCell (dB g (i*3+1)) (oA (a[i].data++x))):=aCw g (i*3) s 104 a[i].data x W d l (by omega);have L:cB (kD (W.setCell (dB g (i*3+1)) (oA (a[i].data++x))) B D (a.set i ⟨a[i].N,a[i].data++x,a[i].Y⟩) c k o q p (pA (yB g) (yA a) n)):=
  G.o.put ((qD.refl _ _).setCell _ _) (d.set _ _) (by simp[u]) (aCd z b _)
 have J:cB (iN B w (W.setCell (dB g (i*3+1)) (oA (a[i].data++x)))):=(iN.of N.o Q).set d (Ca rfl) (by omega) _;clear d b l;go_wp2_with fail;apply lC M.o;rintro h rfl;go_wp2;go_ret;exact⟨rfl,L.o,J.o⟩
def iN.removed{w d:eA}{B D:Nat}{l:List iB}{c k f j:Int}{i:Bool}{v:iA}(h:kD w B D l c k f j i v)(b:lE (λk=>k=D\/v.ownBlock=bA k) w d):iN B w d:=
 ⟨b.below (λg e=>by
  obtain e|e:=e
  .rw[e];exact h.from'
  .exact zH h.row g e) h.size,vJ.keeps b (λg e=>by
  obtain e|e:=e;rw[e];exact⟨_,_,h.blk,La rfl⟩;obtain ⟨a,m⟩:=SE h.row g e;exact⟨a,_,m,Ca rfl⟩)⟩
def kD.inserted{w l:eA}{B D i:Nat}{d:List iB}{f:iB}{c k p r:Int}{q:Bool}{v a:iA}(h:kD w B D d c k p r q v)(x:i<=yA d)
(y:l.ownsRow B 104 3 a (yA d+1) (flat (kN d i f)))(o:lE (λk=>v.ownBlock=bA k) w l)(n:a.ownBlock=v.ownBlock\/a.ownBlock=bA w.1.size):
 kD (l.setCell (dB D 4) a) B D (kN d i f) c k p r q a/\iN B w (l.setCell (dB D 4) a):=by
 have z:=aB h.blk;have j:∀g,a.ownBlock=bA g->g≠D:=λg b=>by
  obtain e|e:=n;exact h.apart g (by rw[<-e];exact b);rw[e]at b;simp at b;omega
 have s:=h.blk.keeps o (λe=>h.apart D e rfl);refine⟨⟨h.from',?_,?_,j⟩,?_⟩;have:=s.set 4 a;simpa using this;rw[oO d i f x];exact DD y j _ _;have t:iN B w l:=⟨o.below (λg b=>zH h.row g b) h.size,vJ.keeps o (λg b=>by
  obtain⟨m,u⟩:=SE h.row g b;exact⟨m,_,u,Ca rfl⟩)⟩
 exact t.set s (La rfl) h.from' _
def za(B D:Nat)(f:List iB)(c k E G:Int)(F:Bool)(v:iA)(m:jB)(w:eA)(h:kD w B D f c k E G F v)(g:pV f)(H:yA f<1000)(I:dJ f m (gC m f)=cA):
 gA prog 186 #[.pointer (yB D),oA m] w λe K=>e=uA .nilIface/\iN B w K/\∃J,kD K B D (kN f (gC m f) ⟨m,kA,0⟩) c k E G F J:=by
 obtain⟨a,s,rfl,p⟩:=h.files;have O:=h.cell4;have z:=bB h;have A:=bB (kO a s f m w p g (by omega));rw[I]at A;have q:=(xI m g).1;have T:¬(1000:Int)<=(yA f:Int):=by omega
 clear h p g I;generalize gC m f=i at *;go_enter func186,ntmps186;go_wp2_with fail;apply lC A.o;intro L r;have n:=bB (z.o.z r);have x:=bB (iN.of r z.o.size);have P:=n.o.cell4;clear O r;go_wp2_with fail;have d:=n.o.z (wF L (vA #[oA m,oA kA,zA 0] 104));refine(RA B L.1.size i (pA a (yA f) s) f ⟨m,kA,0⟩ _ d.row (heap_alloc_new _ _) (λe=>by have:=jP n.o.row _ e;omega) q (by omega) d.size).mono ?_;rintro e Q ⟨J,rfl,l,y,t⟩;obtain⟨u,o⟩:=d.inserted q l y t;have j:=d.blk.keeps y (λe=>d.apart D e rfl);obtain⟨R,C,rfl⟩:=tF l;have S:tC Q D 4 _:=j.cell 4;have b:=j.free 4;have M:=bB u;have N:=bB ((x.o.on zB n.o.size).trans o);clear u o j l y t d P;go_wp2;go_ret;exact⟨rfl,N.o,_,M.o⟩
def aCf{a:Array iA}{b:List iB}{i:Nat}(d:i<yA b)(h:∀m(c:m<yA b),bI a 0 m b[m])(f:iB):
 ∀m(c:m<yA b),bI (((a.setIfInBounds (i*3) (oA f.N)).setIfInBounds (i*3+1) (oA f.data)).setIfInBounds (i*3+2) (zA f.Y)) 0 m (if m=i then f else b[m]):=by grind [bI]
def sj(B D i:Nat)(b:List iB)(c k H J:Int)(I:Bool)(v:iA)(m:jB)(w:eA)(h:kD w B D b c k H J I v)(hi:i<yA b)(y:pV (b.eraseIdx i))(V:yA b<=1048576):
 gA prog 189 #[.pointer (bA ⟨D,0,aA⟩),.int mA i,oA m] w λe w'=>e=uA (xA #[])/\∃j v',qY (b.eraseIdx i) m j/\iN B w w'/\
  ((dJ (b.eraseIdx i) m j=dA/\kD w' B D ((b.eraseIdx i).set j ⟨m,b[i].data,b[i].Y⟩) c k H J I v')\/(dJ (b.eraseIdx i) m j=cA/\kD w' B D (kN (b.eraseIdx i) j ⟨m,b[i].data,b[i].Y⟩) c k H J I v')):=by
 obtain⟨g,cap,rfl,hgD,hBg⟩:=h.slice (by omega);obtain⟨cur,_,a,hnc,hcm,hcs,f⟩:=dP h.row;obtain⟨r0,r1,r2⟩:=f i hi;rw[Ya]at r0 r1 r2;have c0:=a.cell (i*3);have c1:=a.cell (i*3+1);have c2:=a.cell (i*3+2);rw[r0]at c0;rw[r1]at c1;rw[r2]at c2;have d4:=h.cell4;have Z:cB _:=h;have HA:cB (pV (b.eraseIdx i)):=y;have hgl:=aB a;have hDl:=aB h.blk;clear h y a f r0 r1 r2;go_enter func189,ntmps189;go_wp2_with fail;apply lC (SG B D i b c k H J I _ _ (Z.o.z (wF w (vA #[oA m,oA b[i].data,.int mA b[i].Y] 104))) hi V);rintro w1 ⟨v1,p,W,hk⟩;have N:cB (nB w1 w.1.size #[oA m,oA b[i].data,.int mA b[i].Y] 104):=nB.keeps (heap_alloc_new _ _) hk (λe=>by
  obtain e|e:=e;omega;simp[iA.ownBlock]at e;omega)
 have L:cB _:=(iN.of zB Z.o.size).trans (iN.removed (Z.o.z zB) hk);have U:yA (b.eraseIdx i)<=1048576:=by rw[Ad,Ma hi];omega
 have X:v1.ownBlock=bA g:=W;obtain⟨G,l,rfl,z⟩:=p.files;have P:cB _:=X;have E:cB _:=p;have O:cB (tB w1 G (b.eraseIdx i)):=z;have e4:=p.cell4;clear c0 c1 c2 d4 p hk z W X;generalize T:b.eraseIdx i=o at *;go_wp2_with fail;refine(GH G l o m _ O.o HA.o U).mono ?_;rintro e K ⟨j,hp,rfl,t⟩;have HP:cB (qY o m j):=hp;have A:=hp.1;have d:cB _:=E.o.z t;have M:cB _:=L.o.on t E.o.size;have r:cB (nB K w.1.size #[oA m,oA b[i].data,.int mA b[i].Y] 104):=N.o.z t;have g4:=d.o.cell4;have x0:=r.o.cell 0;have x1:=r.o.cell 1;have x2:=r.o.cell 2;simp only[Xb,Ob,Ga]at x0 x1 x2;clear e4 t hp O E L N;cases hq:dJ o m j with
 |true=>
  have HQ:cB _:=hq;have hjl:j<yA o:=by
   rcases Gc j (yA o) with h|h;exact h;rw[dJ,Fd h]at hq;exact absurd hq (by simp)
  obtain⟨s,cap',ev,_,_⟩:=d.o.slice (by omega);obtain rfl:s=g:=by have:=P.o;rw[ev]at this;simpa[iA.ownBlock]using this
  simp only[iA.slice.injEq]at ev;obtain⟨rfl,_,rfl⟩:=ev;obtain⟨Q,_,a,hnc2,hcm2,S,f⟩:=dP d.o.row;have hsz2:j*3+2<Q.size:=by omega
  obtain⟨y0,z0⟩:=a.there (j:=j*3) (by omega);obtain⟨y1,z1⟩:=a.there (j:=j*3+1) (by omega);obtain⟨y2,z2⟩:=a.there (j:=j*3+2) (by omega);have k0:=a.free (j*3);have k1:=a.free (j*3+1);have k2:=a.free (j*3+2);have n:qD s K (((K.setCell ⟨s,j*3,aA⟩ (oA m)).setCell ⟨s,j*3+1,aA⟩ (oA b[i].data)).setCell ⟨s,j*3+2,aA⟩ (.int mA b[i].Y)):=(((qD.refl _ _).setCell _ _).setCell _ _).setCell _ _;have u:cB (kD (((K.setCell ⟨s,j*3,aA⟩ (oA m)).setCell ⟨s,j*3+1,aA⟩ (oA b[i].data)).setCell ⟨s,j*3+2,aA⟩ (.int mA b[i].Y)) B D (o.set j ⟨m,b[i].data,b[i].Y⟩) c k H J I (pA (bA ⟨s,0,aA⟩) (yA o) l)):=
   d.o.put n (((a.set (j*3) (oA m)).set (j*3+1) (oA b[i].data)).set (j*3+2) (.int mA b[i].Y)) (by simp[S]) (aCf hjl f ⟨m,b[i].data,b[i].Y⟩)
  have Y:cB _:=M.o.but n a (Ca rfl) hBg d.o.size;clear hq a f n;go_wp2_with fail;go_region
  go_wp2;refine bodyPost_ret (results_none rfl _ _ _) rfl ?_;subst T;exact⟨rfl,j,_,HP.o,Y.o.on iD.drew u.o.size,Ca ⟨HQ.o,u.o.z iD.drew⟩⟩
 |false=>
  have HQ:cB _:=hq;have x:(iA.slice G (yA o) l).ownBlock≠bA D:=λe=>d.o.apart D e rfl;have hap3:(iA.slice G (yA o) l).ownBlock≠bA w.1.size:=λe=>by rw[P.o]at e;simp at e;omega
  have q:cB (kD (K.drew.alloc (vA #[oA m,oA b[i].data,.int mA b[i].Y] 104)) B D o c k H J I (pA G (yA o) l)):=(d.o.z iD.drew).z zB;clear hq;go_wp2_with fail;have hDl2:=aB d.o.blk;have hFl2:=aB r.o;go_region_with (go_at_call 234;refine(RA B K.1.size j (pA G (yA o) l) o ⟨m,b[i].data,b[i].Y⟩ _ q.o.row (heap_alloc_new _ _) (λe=>by have:=jP d.o.row _ e;omega) A U q.o.size).mono ?_;rintro e w7 ⟨v',rfl,C,F,hat⟩;obtain⟨a7,cap7,rfl⟩:=tF C;have q4:=(q.o.blk.keeps F x).cell 4;have q5:=(q.o.blk.keeps F x).free 4;simp only[Xb,Ob,Ga]at q4)
  all_goals(
   go_wp2
   go_end0
   subst T;obtain⟨p,R⟩:=q.o.inserted A C F hat;exact⟨rfl,j,_,HP.o,((M.o.on iD.drew d.o.size).on zB d.o.size).trans R,La ⟨HQ.o,p⟩⟩)
