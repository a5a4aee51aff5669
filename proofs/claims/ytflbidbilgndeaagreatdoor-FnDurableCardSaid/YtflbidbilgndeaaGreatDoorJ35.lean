import Derived.Test.YtflbidbilgndeaaGreatDoorJ41
import Derived.Test.YtflbidbilgndeaaGreatDoorJ39
import Derived.Lib.SmallJoins
set_option maxRecDepth 100000
set_option maxHeartbeats 4000000
set_option linter.defProp false
open Bool renaming true->dA,false->cA
open Option renaming some->bA,none->aA
open ByteArray renaming empty->kA
open List renaming length->yA
namespace Go.Proofs.YtflbidbilgndeaaGreatDoor
open Go renaming World->eA,Calls->gA
open Value renaming slice->pA,string->oA,pointer->sA,int->lA,tuple->xA
open Obj renaming cells->vA
open Ending renaming returned->uA
open IntKind renaming i64->mA
open Go.RowKit Tryz
section
open Go.Maps
section
variable {w0 w W:eA} {D Lo:Nat} {r:gG} {sa:mC} {sc:Nat} {c:iC} {a:mC} {ca:Nat} {b:mC} {cb:Nat} {N:wC} {l m M:Nat} {B A:Nat→Prop}
theorem aIq{c:iC}{t:fB}{d:jB}:0<=(qE c t d).1:=by
 unfold qE;split<;>simp
theorem aPn{W:eA}{x y z:jB}(h:x.size+y.size+z.size<=100000):gA prog 160 #[pA (yB W.1.size) 3 3] (W.alloc (vA #[oA x,oA y,oA z] 9)) λe f=>e=uA (oA (x++y++z))/\uB W f:=by
 have i:=nB.new W #[oA x,oA y,oA z] 9;refine(uI W.1.size 3 3 [x,y,z] _ rfl (λj q d=>?_) (by simp) (by simp) (by simp) (by simp[fG];omega)).mono ?_
 .rw[Ya,i.cell];match j,d with
  |0,d|1,d|2,d=>simp at d;subst d;rfl
 rintro e f ⟨rfl,g⟩;exact⟨by simp[xF,Wa],vB zB g⟩
theorem pa(h:qV Lo w0 w D r sa sc c a ca b cb N l m M B A)(t:r.K=5)(u:bD r.T=dA)(x:r.T.size+r.R.size<=200000):
 gA prog 89 #[.pointer (yB D)] w λe F=>FK (xP c N r) D r sa sc c l Lo w0 e F:=by
 rw[aPa h.st t u aIq];have p:=h.tabs (eB.of (Below.refl _ w));have o:=bB (λW s(d:uB w W)=>h.same (eB.of d) (s:=s));have n:=bB (xT r.R w (by omega) p.1);have v:=bB (λW(d:uB w W)=>yv l m r.T r.R c N.now B N.ts M W (h.led.z d) (by unfold maxLen;omega) (by unfold maxLen;omega) (aNf h.st _));have k:=bB (λW(d:uB w W)=>oI (h.dsk.z d));have y:=gB 1 0;have z:=gB 8 (qE c (aC N.ts r.T) r.R).1;have E:=gB 8 (qE c (aC N.ts r.T) r.R).2;clear h t u x p;generalize qE c (aC N.ts r.T) r.R=C at *;generalize (r.R.toList.isEmpty||bF r.R)=q at *;have j:=k.o _ iD;go_enter func89,ntmps89;go_wp2_with fail;apply lC n.o;intro H d;have i:=bB d;clear d j n;have j:=k.o _ i.o;cases q
 .go_wp2_with (first|(go_at_call 26;apply lC (pH _ _);intro G d;replace d:=bB d));go_ret;exact o.o _ _ (vB i.o d.o)
 go_upto_region 3 with fail;go_region_law (refine eE (f:=164) (args:=#[.pointer (yB l),oA r.T,oA r.R]) rfl (by go_simp) ?_;apply lC (v.o _ i.o.drew);intro G d;have g:=bB (vB i.o.drew d);clear d;refine⟨_,rfl,?_⟩)
 all_goals
  clear j;go_wp2_with(first
   |(go_at_call 26;apply lC (pH _ _);intro I d;replace g:=bB (vB g.o d);clear d)
   |(go_at_call 165;apply lC (mI _ _);intro J d;replace g:=bB (vB g.o d);clear d)
   |(go_at_call 160;refine lC (aPn (by omega)) ?_;intro K d;replace d:=bB d))
  go_ret;exact o.o _ _ (vB g.o d.o)
end
end
section
open Go.Maps
section
variable {w0 w W:eA} {D Lo:Nat} {r:gG} {sa:mC} {sc:Nat} {c:iC} {a:mC} {ca:Nat} {b:mC} {cb:Nat} {N:wC} {l m M:Nat} {B A:Nat→Prop}
theorem ze(h:qV Lo w0 w D r sa sc c a ca b cb N l m M B A)(hk:r.K=6)(ht:bD r.T=dA)(hz:r.T.size<=200000):
 gA prog 90 #[sA (bA ⟨D,0,aA⟩)] w λe I=>FK (xP c N r) D r sa sc c l Lo w0 e I:=by
 rw[aPb hk ht];obtain⟨z1,z2⟩:(yA (aC N.ts r.T).M<=2000000/\∀i(h:i<yA (aC N.ts r.T).M),(aC N.ts r.T).M[i].s.size<=1900000)/\(yA (aC N.ts r.T).Z<=2000000/\∀i(h:i<yA (aC N.ts r.T).Z),(aC N.ts r.T).Z[i].s.size<=1900000):=by
  have d:=h.bulk;obtain⟨_,q1,q2,q3,q4⟩:=KM (tenant:=r.T) (nS (ts:=N.ts) (by omega)) (by omega);exact⟨⟨by omega,λi E=>q1 _ (Gb E)⟩,by omega,λi E=>q2 _ (Gb E)⟩
 have HS:=bB (λW s(d:uB w W)=>h.same (eB.of d) (s:=s));have HF:=bB (λW(d:uB w W)=>gw l m r.T c N.now B N.ts M W (h.led.z d) (by unfold maxLen;omega));have HT:=bB (λW x S P(E:vD W S x (aC N.ts r.T) P)=>ng x r.T (aC N.ts r.T) S P W E (λi h=>by have:=z1.2 i h;unfold maxLen;omega) (λi h=>by have:=z2.2 i h;unfold maxLen;omega) z1.1 z2.1);have V:=bB (λW(d:uB w W)=>oI (h.dsk.z d));have HZ:=bB z2.2;have hl:=z2.1;clear h hk ht hz z1 z2;unfold ZE at HF;generalize aC N.ts r.T=t at *;generalize N.now=j at *;obtain⟨VV,EV⟩:∃v,v=pB 1 0++pB 8 j++pB 4 (yA t.Z:Nat)++mE t.Z:=⟨_,rfl⟩
 rw[<-EV];replace EV:=bB EV;have T:=V.o _ iD;go_enter func90,ntmps90;go_upto_region 1 with fail;go_cut [3,4] (λx y wx=>∃x' b S P,x=sA (bA ⟨x',0,aA⟩)/\y=.bool b/\vD wx S x' t P/\nB wx l (oW c j m) 160/\uB w wx)
 case first=>
  go_region_law (refine eE (f:=166) (args:=#[sA (bA ⟨l,0,aA⟩),oA r.T]) rfl (by go_simp) ?_;refine(HF.o _ iD.drew).mono ?_;rintro e w1 ⟨x,y,S,P,rfl,E,Z,d⟩;have E1:=bB (Vc E (Vc Z (vB iD.drew d)));clear E Z d;refine⟨_,rfl,?_⟩)
  all_goals(go_wp2;go_meet)
  all_goals exact⟨_,_,_,_,rfl,rfl,E1.o⟩
 obtain⟨x,y,S,P,rfl,rfl,E,Z,d⟩:=hcut;rename eA=>w1;have HI:=bB E;have L1:=bB Z;have B1:=bB d;clear E Z d T HF;have T:=V.o _ B1.o;have fs:=QF;go_wp2_with fail;refine(HT.o _ _ _ _ HI.o).mono ?_;rintro e F ⟨v1,v2,M2,rfl,_,_,_,_,ho,d⟩;obtain⟨a2,d2,rfl⟩:=tF ho;have PS:=bB (oD ho).pairs;have L2:=bB (L1.o.z d);have B2:=bB (vB B1.o d);clear ho d T HI L1 B1 HT;have T:=V.o _ B2.o;go_upto_region 3 with fail;have hz1:=gB 1 0;have hz2:=gB 8 j;have hz3:=gB 4 (yA t.Z:Nat);have u:=bB (λW(d:uB F W)=>(⟨(V.o W (vB B2.o d)).1.2.2.2.2.2.2.2.2.2.2.2.2.2.2.2.2.2.2.2.2.2.2.2.2.2,(L2.o.z d).cell 6⟩:tC W D 25 (sA (bA ⟨l,0,aA⟩))/\tC W l 6 (lA mA j)));have xy:=(u.o _ iD).2;go_cut [6] (λs wx=>∃g,s=pA (bA ⟨g,0,aA⟩) 3 3/\TE F wx g 3 [pB 1 0,pB 8 j,pB 4 (yA t.Z:Nat)])
 case first=>
  go_region_held3 (λW=>W.cell? ⟨D,25,aA⟩=bA (sA (bA ⟨l,0,aA⟩))/\W.cell? ⟨l,6,aA⟩=bA (lA mA j))
   (first|go_keep|with_reducible exact u.o _ k4|with_reducible exact u.o _ k3|with_reducible exact u.o _ k2|with_reducible exact u.o _ iD.drew)
   (first
    |(go_at_call 26;apply lC (pH _ _);intro w3 L;have k2:uB F w3:=(by exact vB iD.drew L))
    |(go_at_call 165;apply lC (mI _ _);intro w4 O;have k3:uB F w4:=(by exact vB k2 O))
    |(go_at_call 167;apply lC (lR _ _);intro w5 hb5;have k4:uB F w5:=(by exact vB k3 hb5)))
  all_goals(go_wp2_with fail;go_meet)
  all_goals exact⟨_,rfl,⟨rfl,La ⟨_,3,_,rfl,k4.size,heap_alloc_new _ _,Ia _,by simp[maxLen],rfl,rfl⟩⟩,vB k4 zB⟩
 obtain⟨g0,rfl,h0⟩:=hcut;rename eA=>w3;have H3:=bB h0;clear T xy h0 u V fs L2;generalize pB 1 0=N1 at *;generalize pB 8 j=N2 at *;generalize pB 4 (yA t.Z:Nat)=N3 at *;generalize t.Z=ss at *;go_wp2;go_loopw [6,8,45] (λout _ i wr=>∃(k:Nat)(p:List jB)(g cv:Nat),k<=yA ss/\i=lA mA k/\out=pA (bA ⟨g,0,aA⟩) (yA p) cv/\yA p<=3+2*k/\fG p<=100+k*2000000/\cB (p=[N1,N2,N3]++eP (ss.take k))/\cB (TE F wr g cv p)) (λ_ _ i _=>yA ss-(intOf i).toNat)
 case atStart=>exact⟨0,[N1,N2,N3],_,_,Oa _,rfl,rfl,by simp,by simp[fG];omega,by refine bB ?_;simp[eP],H3.o⟩
 case round=>
  clear H3;obtain⟨k,p,g,cv,hk,rfl,rfl,hpl,hps,HR,H⟩:=hrel;by_cases G:k<yA ss
  .obtain ⟨b,o,rfl,d,c0,c1'⟩:=(PS.o.z H.o.bel).at G;have X:=bB (λW=>vL ss[k].s W (by have:=HZ.o k G;omega));have HX:=bB (show p++[aG ss[k].s,pB 8 ss[k].n]=[N1,N2,N3]++eP (ss.take (k+1)) by rw[ME ss k G,HR.o,Nd]);have hq3:=iF ss[k].s;have hq4:=gB 8 ss[k].n;have hq5:=HZ.o k G;have HN8:=bB (λW=>mI ss[k].n W);generalize aG ss[k].s=S3 at *;generalize pB 8 ss[k].n=S4 at *;generalize ss[k].s=R at *;generalize ss[k].n=Q at *;have U:=bB (nB.new wr #[oA R,lA mA Q] 98);have H1:=bB (H.o.z (wF wr (vA #[oA R,lA mA Q] 98)));have hgB:=(bH H.o.row).2.1;clear HR H;go_upto_region 7 with fail;generalize wr.alloc (vA #[oA R,lA mA Q] 98)=W at *;have hBX:=aB U.o;clear d c0 c1';generalize wr.1.size=K at *;clear wr;have C:cB (∀I,uB W I->tC I K 0 (oA R)/\tC I K 1 (lA mA Q)):=λI h=>(U.o.z h).c2;have T:=C.o W iD;go_region_held3 (λI=>I.cell? ⟨K,0,aA⟩=bA (oA R)/\I.cell? ⟨K,1,aA⟩=bA (lA mA Q))
    (first|go_keep|exact J|exact C.o _ (z.alloc z.size _)|exact C.o _ z|exact C.o _ a0)
    (first
     |(go_at_call 168;apply lC (X.o _);intro w3 L;have a0:uB W w3:=(Below.refl _ W).drew.trans L)
     |(go_at_call 165;apply lC (HN8.o _);intro w4 O;have z:uB W w4:=vB a0 O)
     |(refine SY (by exact H1.o.z z) (by rfl) _ _ (by rfl) (by rfl) (by rfl) (by rfl) (by omega) ?_;intro g5 Y w5 H5 d0;have J:tC w5 K 0 (oA R)/\tC w5 K 1 (lA mA Q):=(by have q:=C.o _ z;have e0:=d0 K (by have:=z.size;omega) (by omega);exact⟨(eA.cell?_of_block e0).trans q.1,(eA.cell?_of_block e0).trans q.2⟩)))
   have hle:yA (p++[S3,S4])=yA p+2:=by simp
   have hsm:fG (p++[S3,S4])=fG p+(S3.size+S4.size):=by rw[rH];simp[fG]
   replace H5:=bB H5;rw[<-hle];clear J d0;generalize p++[S3,S4]=ps5 at *;go_wp2;exact⟨⟨k+1,ps5,g5,Y,by omega,by go_num,rfl,by omega,by omega,HX,H5⟩,by simp[intOf];omega⟩
  have E2:cB (xF p=VV):=by
   show _=_;rw[EV.o,HR.o,lG,lX,Ra (by omega)];simp[xF,Wa]
  obtain⟨hcv,hg,b0⟩:=bH H.o.row;have HJ:=bB (uI g (yA p) cv p wr rfl b0 hg hcv (by omega) (by omega));rw[E2.o]at HJ;clear b0;go_wp2_with fail;apply lC HJ.o;intro w4 d;replace d:=bB d;go_wp2;go_ret;exact HS.o _ _ (vB (vB B2.o H.o.bel) d.o)
end
end
structure FM(K:yD)(p r:Nat):Prop where
 v:eF K.fs K.c K.k K.cr K.fl=dA
 c:K.c=1000000
 cr:K.cr=0
 fl:K.fl=0
 dn:K.dn=cA
 k:K.k≤p
 l:yA K.fs≤p
 m:pC K.fs≤r
def pY(a:List iB)(x:jB)(n:jB×Int):Prop:=∃f∈a,f.N=x/\(f.data,f.Y)=n
def uh(a:List iB)(x:jB):Prop:=∃n,pY a x n
def MY(F a:List iB)(x:jB)(n:jB×Int):Prop:=∀y j,pY F y j ↔ if y=x then j=n else pY a y j
def vo{f:iB}:∀{a:List iB}{g:iB},g∈jG a f ↔ g=f\/g∈a
 |[],g=>by simp[jG]
 |x::r,g=>by
  have:=@vo f r g;rw[jG];split<;>simp only[Lb,this]<;>grind
def EB{b:List iB}{t y:jB}{j:jB×Int}:pY (yC b t) y j ↔ y≠t/\pY b y j:=by
 unfold pY yC;constructor;rintro ⟨f,a,rfl,h⟩;obtain⟨d,c⟩:=De.1 a;exact⟨λe=>by rw[e]at c;simp at c,f,d,rfl,h⟩;rintro ⟨g,f,a,rfl,h⟩;exact⟨f,De.2 ⟨a,by rw[zD g];rfl⟩,rfl,h⟩
def ZY{b:List iB}(g:iB):MY (dH b g) b g.N (g.data,g.Y):=by
 intro y j;have:pY (dH b g) y j ↔ (g.N=y/\(g.data,g.Y)=j)\/pY (yC b g.N) y j:=by
  unfold pY dH;simp only[vo];grind
 rw[this,EB];split
 .rename_i h;exact⟨λa=>by obtain a|a:=a;exact a.2.symm;exact absurd h a.1,λa=>Ca ⟨h.symm,a.symm⟩⟩
 rename_i h;exact⟨λa=>by obtain a|a:=a;exact absurd a.1.symm h;exact a.2,λa=>La ⟨h,a⟩⟩
def CT{a:List iB}{x:jB}{n:jB×Int}(b:pV a)(h:pY a x n):∃c:gC x a<yA a,a[gC x a].N=x/\(a[gC x a].data,a[gC x a].Y)=n/\dJ a x (gC x a)=dA:=by
 obtain⟨f,j,rfl,rfl⟩:=h;obtain⟨i,c,rfl⟩:=Ib j;cases hb:dJ a a[i].N (gC a[i].N a) with
 |false=>exact absurd rfl (JW b hb i c)
 |true=>
  obtain⟨g,d⟩:=BR hb;have e:gC a[i].N a=i:=by
   rcases Nat.lt_trichotomy (gC a[i].N a) i with q|q|q
   .have:=b _ _ q c;rw[d,yE]at this;cases this
   .exact q
   have:=b _ _ q g;rw[d,yE]at this;cases this
  exact⟨g,d,by simp only[e],rfl⟩
def ah{a:List iB}{x:jB}(h:¬uh a x):dJ a x (gC x a)=cA:=by
 cases hb:dJ a x (gC x a) with
 |false=>rfl
 |true=>
  obtain⟨c,b⟩:=BR hb;exact absurd ⟨_,_,Gb c,b,rfl⟩ h
section
variable {K:yD} {k m:Nat} {n:jB×Int} {x z:jB} {op:zN} {F:List iB}
theorem FM.asc(h:FM K k m):pV K.fs:=gT (rG h.v).1
theorem ib(h:FM K k m)(r:k<999)(b:US op=dA)(i:tU K.fs K.c op=(0,F)){m':Nat}(p:pC F<=m')(s:yA F<=yA K.fs+1):∃a,gF K op=(a,0)/\FM a (k+1) m'/\a.fs=F:=by
 have e:eF (iL K.fs K.c K.k K.cr K.fl K.dn op).2.1 K.c (iL K.fs K.c K.k K.cr K.fl K.dn op).2.2.1 K.cr K.fl=dA:=PR h.v b;have j:=h.k;have o:=h.l;have g:fI K.k K.cr K.fl K.dn=(0,K.k+1,cA):=by
  unfold fI;rw[Ja (by rw[h.dn];decide),Ja (by omega),Ja (λq=>q.1 h.cr),Ja (λq=>q.1 h.fl)]
 have d:iL K.fs K.c K.k K.cr K.fl K.dn op=(0,F,K.k+1,cA):=by
  unfold iL;rw[g,Ma rfl,i]
 rw[d]at e;exact⟨⟨F,K.c,K.k+1,K.cr,K.fl,cA⟩,by rw[na h.v b,d],⟨e,h.c,h.cr,h.fl,rfl,by show K.k+1<=_;omega,by show yA F<=_;omega,p⟩,rfl⟩
theorem qd(h:FM K k m)(j:k<999)(o:qG x=dA)(p:¬uh K.fs x):∃a,gF K ⟨1,x,⟨#[]⟩,⟨#[]⟩,0⟩=(a,0)/\FM a (k+1) m/\MY a.fs K.fs x (kA,0):=by
 have b:=ah p;have s:=h.l;have i:tU K.fs K.c ⟨1,x,⟨#[]⟩,⟨#[]⟩,0⟩=(0,dH K.fs ⟨x,kA,0⟩):=by
  rw[cX (f:=⟨x,kA,0⟩) h.asc b];unfold tU;simp only[b];rw[Ma trivial,Ja (by decide),Ja (by omega)]
 have r:(gC x K.fs)<=yA K.fs:=(xI x h.asc).1;obtain⟨a,d,e,g⟩:=ib h j (by simp[US,bC,o]) i (m':=m) (by
  rw[cX (f:=⟨x,kA,0⟩) h.asc b,lY];exact h.m) (by
  rw[cX (f:=⟨x,kA,0⟩) h.asc b,oO _ _ _ r];exact Ia _)
 exact⟨a,d,e,by rw[g];exact ZY _⟩
theorem aEx(h:FM K k m)(b:pY K.fs x n)(g:iB)(c:g.N=x):MY (K.fs.set (gC x K.fs) g) K.fs x (g.data,g.Y)/\pC (K.fs.set (gC x K.fs) g)+n.1.size=pC K.fs+g.data.size/\yA (K.fs.set (gC x K.fs) g)<=yA K.fs+1:=by
 obtain⟨a,d,rfl,e⟩:=CT h.asc b;subst c;refine⟨?_,jM _ _ _ a,by rw[Pd];omega⟩;rw[<-JF h.asc a d];exact ZY _
theorem aEv(h:FM K k m)(j:k<999)(l:qG x=dA)(b:pY K.fs x n){t:jB}(y:m+t.size<=1000000):∃a,gF K ⟨2,x,⟨#[]⟩,t,0⟩=(a,0)/\FM a (k+1) (m+t.size)/\MY a.fs K.fs x (n.1++t,n.2):=by
 obtain⟨i,d,e,g⟩:=CT h.asc b;subst e;obtain⟨o,p,r⟩:=aEx h b ⟨x,K.fs[gC x K.fs].data++t,K.fs[gC x K.fs].Y⟩ rfl;have A:=h.m;have w:=h.c;simp only[Ka]at p;obtain⟨a,s,u,v⟩:=ib (op:=⟨2,x,⟨#[]⟩,t,0⟩) h j (by simp[US,bC,l]) (by
  unfold tU;simp only[Va i,g,d];rw[Ja (by decide),Ja (by decide),Ma trivial,Ja (by omega)]) (m':=m+t.size) (by omega) r
 exact⟨a,s,u,by rw[v];exact o⟩
theorem aEy(h:FM K k m)(i:k<999)(j:qG x=dA)(b:pY K.fs x n):∃a,gF K ⟨3,x,⟨#[]⟩,⟨#[]⟩,0⟩=(a,0)/\FM a (k+1) m/\MY a.fs K.fs x (n.1,(n.1.size:Nat)):=by
 obtain⟨g,c,d,e⟩:=CT h.asc b;subst d;obtain⟨l,o,p⟩:=aEx h b ⟨x,K.fs[gC x K.fs].data,(K.fs[gC x K.fs].data.size:Nat)⟩ rfl;have u:=h.m;dsimp only at o;obtain⟨a,r,s,t⟩:=ib (op:=⟨3,x,⟨#[]⟩,⟨#[]⟩,0⟩) h i (by simp[US,bC,j]) (by
  unfold tU;simp only[Va g,e,c];rw[Ja (by decide),Ja (by decide),Ja (by decide),Ma trivial]) (m':=m) (by omega) p
 exact⟨a,r,s,by rw[t];exact l⟩
theorem aEw(h:FM K k m)(g:pY K.fs x n):K.fs.eraseIdx (gC x K.fs)=yC K.fs x/\pC (yC K.fs x)+n.1.size=pC K.fs/\yA (yC K.fs x)<=yA K.fs:=by
 obtain⟨a,c,d,i⟩:=CT h.asc g;subst d;have e:K.fs.eraseIdx (gC x K.fs)=yC K.fs x:=by
  have:=aR h.asc a;rw[c]at this;exact this.symm
 have b:=dS K.fs _ a;rw[e]at b;exact⟨e,b,Pc _ _⟩
theorem aMw(h:FM K k m)(o:k<999)(p:qG x=dA)(s:qG z=dA)(c:pY K.fs x n):∃a,gF K ⟨5,x,z,⟨#[]⟩,0⟩=(a,0)/\FM a (k+1) m/\∀y j,pY a.fs y j ↔ if y=z then j=n else y≠x/\pY K.fs y j:=by
 obtain⟨i,B,d,e⟩:=CT h.asc c;subst d;obtain⟨u,G,H⟩:=aEw h c;have E:=h.m;have C:=DM (λf=>!(f.N.toList==z.toList)) (yC K.fs x);have D:yA (yC (yC K.fs x) z)<=_:=Pc _ _;have b:∀(l:List iB)(f:iB),yA (jG l f)=yA l+1:=λl f=>by
  induction l with
  |nil=>rfl
  |cons g r t=>unfold jG;split<;>simp[t]
 obtain⟨a,v,w,A⟩:=ib (op:=⟨5,x,z,⟨#[]⟩,0⟩) (F:=dH (yC K.fs x) ⟨z,K.fs[gC x K.fs].data,K.fs[gC x K.fs].Y⟩) h o (by simp[US,bC,p,s]) (by
  unfold tU;simp only[Va i,e,u];rw[Ja (by decide),Ja (by decide),Ja (by decide),Ja (by decide),Ja (by decide),Ma trivial]) (m':=m) (by
  rw[dH,JA];unfold yC at *;dsimp only at *;omega) (by
  rw[dH,b];dsimp only;omega)
 refine⟨a,v,w,λy j=>?_⟩;rw[A,ZY];dsimp only;rw[EB]
theorem aMv(h:FM K k m)(e:k<999)(g:qG x=dA)(b:uh K.fs x):∃a,gF K ⟨6,x,⟨#[]⟩,⟨#[]⟩,0⟩=(a,0)/\FM a (k+1) m/\∀y j,pY a.fs y j ↔ y≠x/\pY K.fs y j:=by
 obtain⟨n,b⟩:=b;obtain⟨d,r,s,c⟩:=CT h.asc b;obtain⟨i,u,v⟩:=aEw h b;have t:=h.m;obtain⟨a,l,o,p⟩:=ib (op:=⟨6,x,⟨#[]⟩,⟨#[]⟩,0⟩) (F:=yC K.fs x) h e (by simp[US,bC,g]) (by
  unfold tU;simp only[Va d,c,i];rw[Ja (by decide),Ja (by decide),Ja (by decide),Ja (by decide),Ja (by decide),Ja (by decide)]) (m':=m) (by omega) (by omega)
 exact⟨a,l,o,λy j=>by rw[p,EB]⟩
end
def jY{i j:Int}(g:1<=i/\i<=90)(l:1<=j/\j<=90)(h:zE i=zE j):i=j:=by
 rw[OE _ g.1 (by omega),OE _ l.1 (by omega)]at h;have a:eZ i.toNat 6=eZ j.toNat 6:=by
  have:=Kd (λs:jB=>s.data.toList) h;simpa[KH]using this
 simp only[eZ,List.cons.injEq,Cc]at a;obtain⟨-,-,-,-,d,e⟩:=a;have b:=Kd UInt8.toNat (UInt8.add_right_inj _ |>.1 d);have c:=Kd UInt8.toNat (UInt8.add_right_inj _ |>.1 e);simp at b c;omega
def gO(i:Int):zE i≠FI/\zE i≠sR:=by
 unfold zE;split
 .have h:∀l:List UInt8,∀b:jB,b.data.toList.head?≠bA 119->(⟨(119::l).toArray⟩:jB)≠b:=λl b a e=>by subst e;exact a rfl
  exact⟨h _ _ (by decide),h _ _ (by decide)⟩
 exact ⟨by decide,by decide⟩
def mc{i:Int}(a:1<=i)(b:i<=90):Op.bytesLess (zE i).toList FI.toList=cA:=by
 rw[ByteArray.toList_eq,ByteArray.toList_eq];unfold zE;rw[Ma ⟨a,by omega⟩];rfl
structure eo(K:yD)(L:iH)(q m:Nat):Prop where
 b:1≤L.first∧L.first≤L.last∧L.last≤q
 z:0≤L.size∧L.size≤m
 lo:∀i,L.first≤i→i≤L.last→uh K.fs (zE i)
 hi:∀x,uh K.fs x→x=FI∨∃i,L.first≤i∧i≤L.last∧x=zE i
section
variable {K:yD} {L:iH} {k m q:Nat} {n:jB×Int} {f:jB}
theorem IH{F a:List iB}{x y:jB}(h:MY F a x n):uh F y ↔ y=x\/uh a y:=by
 unfold uh;simp only[h _ _];by_cases e:y=x<;>simp[e]
theorem eo.ok(h:eo K L q m)(g:q<=80)(e:m<=1000000):bM L=dA:=by
 obtain⟨a,c,d⟩:=h.b;have:=h.z;simp[bM,bC];omega
theorem eo.put(h:eo K L q m){c:yD}{x:jB}{j:jB×Int}(d:MY c.fs K.fs x j)(l:uh K.fs x):eo c L q m:=
 ⟨h.b,h.z,λi e g=>(IH d).2 (La (h.lo i e g)),λy a=>h.hi y (by rcases(IH d).1 a with rfl|a;exact l;exact a)⟩
theorem gh(s:Int)(w:1<=s):∀(n:Nat),s+n<=90->∀{K:yD}{k:Nat},FM K k m->k+n<999->(∀i:Nat,i<n->uh K.fs (zE (s+i)))->∃c,pL K (iR s n)=(c,0)/\FM c (k+n) m/\∀y j,pY c.fs y j ↔ (∀i:Nat,i<n->y≠zE (s+i))/\pY K.fs y j
 |0,_,K,_,h,_,_=>⟨K,rfl,h,λy j=>⟨λh=>⟨λi a=>absurd a (by omega),h⟩,λh=>h.2⟩⟩
 |n+1,E,K,k,h,D,l=>by
  obtain⟨C,g,t,o⟩:=gh s w n (by omega) h (by omega) λi a=>l i (by omega);obtain⟨x,A⟩:=l n (by omega);obtain⟨p,r,u,B⟩:=aMv (x:=zE (s+n)) t (by omega) (eQ _ (by omega) (by omega)) ⟨x,(o _ _).2 ⟨λi a e=>by have:=jY (by omega) (by omega) e;omega,A⟩⟩;refine⟨p,?_,u,λy j=>?_⟩
  .rw[PO,aCg _ (by rw[g]),g];exact r
  rw[B,o];constructor
  .rintro ⟨b,d,v⟩;exact⟨λi a=>by
    by_cases e:i=n
    .rw[e];exact b
    exact d i (by omega),v⟩
  .rintro ⟨b,d⟩;exact⟨b n (by omega),λi a=>b i (by omega),d⟩
theorem aOp{a b:iB}{c:List iB}(d:pV c)(h:∀f,f∈c ↔ f=a\/f=b)(p:Op.bytesLess b.N.toList a.N.toList=cA)(t:a.N≠b.N):c=[a,b]:=by
 have o:=(h a).2 (Ca rfl);have s:=(h b).2 (La rfl);match c with
 |[]=>cases o
 |[x]=>grind
 |x::y::r=>
  have q:=d 0 1 (by omega) (by simp);have e:=(h x).1 (by simp);have l:=(h y).1 (by simp);have g:x=a/\y=b:=by
   simp only[Eg,Ec]at q;rcases e with rfl|rfl<;>obtain rfl|rfl:=l
   .rw[yE]at q;cases q
   .exact ⟨rfl,rfl⟩
   .rw[p]at q;cases q
   rw[yE]at q;cases q
  obtain⟨rfl,rfl⟩:=g;cases r with
  |nil=>rfl
  |cons z r=>
   have i:=d 0 2 (by omega) (by simp only[Zb];omega);have j:=d 1 2 (by omega) (by simp only[Zb];omega);simp only[Eg,Ec]at i j;rcases(h z).1 (by simp) with rfl|rfl
   .rw[yE]at i;cases i
   rw[yE]at j;cases j
theorem aIp(h:FM K k m)(l:eo K L q m)(b:q<80)(b:k<850){t:jB}(b:m+t.size<=1000000):∃G,pL K (zU K L t)=(G,0)/\FM G (k+5+q) t.size/\eo G ⟨L.last+1,L.last+1,0⟩ (q+1) t.size/\G.fs=[⟨FI,t,(t.size:Nat)⟩,⟨zE (L.last+1),kA,0⟩]:=by
 obtain⟨T,c,c⟩:=l.b;have E:¬uh K.fs sR:=λJ=>by
  rcases l.hi _ J with e|⟨i,_,_,e⟩;exact absurd e (by decide);exact (gO i).2 e.symm
 have A:¬uh K.fs (zE (L.last+1)):=λJ=>by
  rcases l.hi _ J with e|⟨i,c,n,e⟩;exact (gO _).1 e;have:=jY (by omega) (by omega) e;omega
 have H:qG sR=dA:=by decide
 have v:qG FI=dA:=by decide
 obtain⟨K1,U,z,M⟩:=qd h (by omega) H E;obtain⟨F,V,F,N⟩:=aEv z (by omega) H ((M _ _).2 (by rw[Ma rfl])) b;obtain⟨b,W,b,O⟩:=aEy F (by omega) H ((N _ _).2 (by rw[Ma rfl]));obtain⟨S,X,z,R⟩:=aMw b (by omega) H v ((O _ _).2 (by rw[Ma rfl]));have a:∀y j,pY S.fs y j ↔ if y=FI then j=(kA++t,((kA++t).size:Int)) else y≠sR/\pY K.fs y j:=λy j=>by
  rw[R,O,N,M];grind
 clear R O N M;obtain⟨b,Y,b,I⟩:=qd (x:=zE (L.last+1)) z (by omega) (eQ _ (by omega) (by omega)) (fun⟨j,r⟩=>by
  rw[a,Ja (gO _).1]at r;exact A ⟨j,r.2⟩)
 have v:((L.last+1-L.first).toNat:Int)=L.last+1-L.first:=by omega
 obtain⟨B,Z,u,P⟩:=gh L.first T (L.last+1-L.first).toNat (by omega) b (by omega) λi Q=>by
  obtain⟨j,r⟩:=l.lo (L.first+i) (by omega) (by omega);refine⟨j,?_⟩;rw[I,Ja λe=>by have:=jY (by omega) (by omega) e;omega,a,Ja (gO _).1];exact⟨(gO _).2,r⟩
 have g:∀y j,pY B.fs y j->y=FI/\j=(t,(t.size:Int))\/y=zE (L.last+1)/\j=(kA,0):=λy j r=>by
  rw[P,I]at r;obtain⟨p,o⟩:=r;split at o;exact La ⟨‹_›,o⟩;rw[a]at o;split at o;exact Ca ⟨‹_›,by rw[o];simp⟩;rcases l.hi y ⟨j,o.2⟩ with e|⟨i,c,n,e⟩;exact absurd e ‹_›;exact absurd (by rw[e];congr 1;omega) (p (i-L.first).toNat (by omega))
 have A:dO K.fs=[]:=by
  unfold dO;rw[wZ h.asc (xI sR h.asc),ah E];rfl
 have w:B.fs=[⟨FI,t,(t.size:Nat)⟩,⟨zE (L.last+1),kA,0⟩]:=by
  have D:∀y j,pY B.fs y j->(⟨y,j.1,j.2⟩:iB) ∈B.fs:=λy j ⟨f,C,p,o⟩=>by subst p o;exact C
  refine aOp u.asc (λf=>⟨λC=>?_,λC=>?_⟩) (mc (by omega) (by omega)) (λe=>(gO _).1 e.symm)
  .obtain ⟨x,d,s⟩:=f;rcases g _ _ ⟨_,C,rfl,rfl⟩ with⟨p,o⟩|⟨p,o⟩<;>(dsimp only at p o;obtain⟨rfl,rfl⟩:=Prod.mk.inj o;subst p)
   .exact Ca rfl
   exact La rfl
  obtain rfl|rfl:=C;refine D FI (t,(t.size:Int)) ?_;rw[P,I,Ja (λe=>(gO _).1 e.symm),a,Ma rfl];exact⟨λi Q e=>(gO _).1 e.symm,by simp⟩;refine D (zE (L.last+1)) (kA,0) ?_;rw[P,I,Ma rfl];exact⟨λi Q e=>by have:=jY (by omega) (by omega) e;omega,rfl⟩
 refine⟨B,?_,⟨u.v,u.c,u.cr,u.fl,u.dn,by have:=u.k;omega,by have:=u.l;omega,by rw[w];simp[pC]⟩,⟨by dsimp only;omega,by dsimp only;omega,λi p o=>?_,λx ⟨j,r⟩=>?_⟩,w⟩;unfold zU yZ;rw[A,Mb];simp only[Sd,Mb,pL,U,V,W,X,Y,Td];exact Z
 .obtain rfl:i=L.last+1:=by dsimp only at p o;omega
  rw[w];exact⟨_,_,Sb _ (Uf.2 rfl),rfl,rfl⟩
 rcases g x j r with⟨e,_⟩|⟨e,_⟩;exact Ca e;exact La ⟨_,Xd _,Xd _,e⟩
end
section
open Go.Maps
def nDk(w:eA)(g:Nat):Prop:=∀cur t,w.heap[g]?=bA (vA cur t (0,0))->t≠104/\t≠102/\t≠67
def cR(w w':eA):Prop:=∀(b:Nat)(o:Obj),w.heap[b]?=bA o->nDk w b->w'.heap[b]?=bA o
section
variable {w w':eA} {b:Nat} {cur:Array Value} {t:TypeId}
theorem vJ.kw(k:vJ w w'):cR w w':=λb o h a=>k b o h λcur t e=>⟨(a cur t (h.trans (Kd bA e))).1,(a cur t (h.trans (Kd bA e))).2.1⟩
theorem cR.of(h:uB w w'):cR w w':=(vJ.of h).kw
theorem cR.trans{a:eA}(h:cR a w)(k:cR w w'):cR a w':=λx o d c=>k x o (h x o d c) λcur t e=>c cur t (d.trans ((h x o d c).symm.trans e))
theorem cR.p{P D:Nat}{L:iH}(k:eB (·=P) w w')(h:iX w P D L):cR w w':=λb _ a c=>(k.block b (aB a) λe=>by subst e;exact(c _ _ h).2.2 rfl).trans a
theorem aJw(h:nB w b cur t)(d:t≠104/\t≠102/\t≠67):nDk w b:=λa f c=>by
 have e:=Lc ((show w.heap[b]?=_ from h).symm.trans c);cases e;exact d
theorem aJx{H:Type}{P:Program}{k:TypeId}{R:Value->Option (DataW H×List MemPlace)}{m n:Nat}{D:DataW H}(h:w.ownsMap P k R m n D):nDk w m:=λcur t c=>by
 obtain⟨e,a,d,r⟩:=h;rw[d]at c;cases c
theorem cR.blk(k:cR w w')(h:nB w b cur t)(a:t≠104/\t≠102/\t≠67):nB w' b cur t:=k b _ h (aJw h a)
theorem cR.map{H:Type}(e:cR w w'){P:Program}{k:TypeId}{R:Value->Option (DataW H×List MemPlace)}{m n:Nat}{D:DataW H}(h:w.ownsMap P k R m n D):w'.ownsMap P k R m n D:=by
 obtain⟨c,a,d,r⟩:=id h;exact⟨c,a,e m _ d (aJx h),r⟩
theorem jE.apart{B:Nat->Prop}{l m:Nat}{c:iC}{a:Int}{M:Nat}(h:jE w B l m c a [] M)(k:cR w w'):jE w' B l m c a [] M:=by
 obtain⟨T,L,h,e⟩:=h;obtain rfl:L=[]:=by cases L with
  |nil=>rfl
  |cons p r=>cases e
 exact⟨T,[],{ h with blk:=k.blk h.blk (by decide),ten:=k.map h.ten,idx:=λp d=>by cases d},e⟩
end
def aOg(P D:Nat)(a:mC)(c:Nat)(w:eA)(g:w.cell? (dB P 0)=bA (.pointer (yB D)))(f:w.cell? (dB D 4)=bA (pA a 0 c)):
 rL 125 #[.pointer (yB P)] w (pA aA 0 0):=by
 go_enter func125,ntmps125;go_wp2;go_loopw [3,16] (λd i wr=>i=zA 0/\d=pA aA 0 0/\wr=w) (λ_ i _=>0-(intOf i).toNat)
 case atStart=>exact⟨rfl,rfl,rfl⟩
 case round=>
  obtain⟨rfl,rfl,rfl⟩:=hrel;go_wp2;go_ret;exact⟨rfl,rfl⟩
def lg0:iH:=⟨0,0,0⟩
def dk0:yD:=⟨[],1000000,0,0,0,cA⟩
def aLk{d w:eA}{B P D:Nat}(h:aO d w B P D dk0 lg0):
 gA prog 70 #[.pointer (yB P)] w λe w'=>e=uA (xA #[pA aA 0 0,.nilIface])/\aO d w' B P D dk1 ⟨1,1,0⟩/\cR w w':=by
 obtain⟨v,k⟩:=h.drive;obtain⟨a,n,rfl,I⟩:=k.files;have m:=bB h;have f:=bB (aOg P D a n w h.wr.cells.1 k.cell4);obtain⟨x,C,E,F⟩:=h.wr.cells;have G:tC w D 3 (.bool cA):=k.blk.cell 3;have o:=nB.free h.wr 1;have q:=nB.free h.wr 2;have r:=nB.free h.wr 3;clear h k I;go_enter func70,ntmps70;go_wp2_with fail;apply dR f.o;go_upto_region 6 with fail;have c:cB (aO d (((w.setCell (dB P 1) (zA 1)).setCell (dB P 2) (zA 1)).setCell (dB P 3) (zA 0)) B P D dk0 ⟨1,1,0⟩):=((m.o.set (L':=⟨1,0,0⟩) 1 _ (by simp[lg0])).set (L':=⟨1,1,0⟩) 2 _ (by simp)).set (L':=⟨1,1,0⟩) 3 _ (by simp);have A:=bB (cR.p ((((eB.refl (·=P) w).setCell (Ca rfl) 1 (zA 1)).setCell (Ca rfl) 2 (zA 1)).setCell (Ca rfl) 3 (zA 0)) m.o.wr);clear x C E F G o q r m f;generalize ((w.setCell (dB P 1) (zA 1)).setCell (dB P 2) (zA 1)).setCell (dB P 3) (zA 0)=L at *;obtain⟨x,_,_,_⟩:=c.o.wr.cells;have l:cB (∀W,aO d W B P D dk0 ⟨1,1,0⟩->gA prog 123 #[.pointer (yB D),.agg #[zA 1,oA (zE 1),oA ⟨#[]⟩,oA ⟨#[]⟩,zA 0]] W λe w'=>e=uA .nilIface/\aO d w' B P D dk1 ⟨1,1,0⟩/\vJ W w'):=λW H=>SW (aH 1) H (bu (by omega) (by omega) (by omega)) tr;go_region_held3 (λw'=>w'.cell? (dB P 0)=bA (.pointer (yB D)))
  (first|exact i.o.wr.cells.1|exact g.o.wr.cells.1|exact(c.o.z iD.drew).wr.cells.1)
  (first
  |(go_at_call 126;apply lC (wL 1 _ (c.o.z iD.drew).tab);intro J j;have y:=bB (A.o.trans (cR.of (vB iD.drew j)));have g:cB (aO d J B P D dk0 ⟨1,1,0⟩):=(c.o.z iD.drew).z j)
  |(go_at_call 123;apply lC (l.o _ g.o);rintro K ⟨u,s⟩;have z:=bB (y.o.trans s.kw);have i:cB (aO d K B P D dk1 ⟨1,1,0⟩):=u))
 all_goals
  go_wp2;go_ret2;exact⟨rfl,i.o,z.o⟩
def CkX(c:iC)(lsn a:Int)(d:List fB)(w:eA)(e:Ending)(w':eA):Prop:=
 ∃h l m,e=uA (xA #[.pointer (yB h),.nilIface])/\w.1.size<=h/\nB w' h #[.pointer (yB l),zA lsn] 78/\jE w' (λg=>w.1.size<=g/\g≠h) l m c a d 1900000/\uB w w'
def ve{w W d:eA}{c:iC}{lsn a:Int}{i:List fB}{l m:Nat}(e:uB w W)(f:uB W d)(h:jE d (W.1.size<=·) l m c a i 1900000):
 CkX c lsn a i w (uA (xA #[.pointer (yB d.1.size),.nilIface])) (d.alloc (vA #[.pointer (yB l),zA lsn] 78)):=by
 have j:=e.size;have o:=f.size;exact⟨_,l,m,rfl,by omega,nB.new _ _ _,h.re λg k n=>⟨zB.block g k,Ua j n,by omega⟩,vB (vB e f) zB⟩
def aLr{O w:eA}{B P D:Nat}{K:yD}{L:iH}(c:iC)(h:aO O w B P D K L)(o:¬uh K.fs FI)(A:lH c=dA)(y:uG w):
 gA prog 69 #[.pointer (yB P),rE c] w λe w'=>CkX c 0 0 [] w e w':=by
 obtain⟨v,q⟩:=h.drive;obtain⟨a,x,rfl,k⟩:=q.files;obtain⟨d,f,_⟩:=rG h.valid;have r:=bB (λW(s:uB w W)=>kO a x K.fs FI W (k.z s) (gT d) (by omega));have g:=bB (λW(s:uB w W)=>AP c 0 aA 0 [] 1900000 W (Ca rfl) (wR (ts:=[]) (by decide)).1 (by simp) (y.z s));have p:nC c 0 []=dA:=sO A (by decide) (by simp) rfl;unfold BG at g;rw[p]at g;rw[ah o]at r;simp only[List.length_nil]at g;have I:tC w D 4 (pA a (yA K.fs) x):=q.cell4;have J:=aB q.blk;obtain⟨H,_,_,_⟩:=h.wr.cells;have M:=aB h.wr;clear q k h A y p o d f;generalize gC FI K.fs=b at *;generalize yA K.fs=Z at *;unfold rE at *;have j:=bB (show nB ((w.alloc (vA #[zA c.w,zA c.tl,zA c.ml,zA c.sh,zA c.ha,zA c.sg] 24)).alloc (vA #[zA 0,pA aA 0 0] 40)) w.1.size #[zA c.w,zA c.tl,zA c.ml,zA c.sh,zA c.ha,zA c.sg] 24/\nB ((w.alloc (vA #[zA c.w,zA c.tl,zA c.ml,zA c.sh,zA c.ha,zA c.sg] 24)).alloc (vA #[zA 0,pA aA 0 0] 40)) (w.1.size+1) #[zA 0,pA aA 0 0] 40 from⟨(nB.new _ _ _).alloc _,by have:=nB.new (w.alloc (vA #[zA c.w,zA c.tl,zA c.ml,zA c.sh,zA c.ha,zA c.sg] 24)) #[zA 0,pA aA 0 0] 40;simpa using this⟩);have n:=bB (vB (wF w (vA #[zA c.w,zA c.tl,zA c.ml,zA c.sh,zA c.ha,zA c.sg] 24)) (wF _ (vA #[zA 0,pA aA 0 0] 40)));go_enter func69,ntmps69;go_wp2_with fail;apply lC (r.o _ n.o);intro E i;have u:=bB (vB n.o i);obtain⟨Q,R,S,T,U,V⟩:=(j.o.1.z i).c6;have X:tC E (w.1.size+1) 0 (zA 0):=(j.o.2.z i).cell 0;have Y:tC E (w.1.size+1) 1 (pA aA 0 0):=(j.o.2.z i).cell 1;clear i r H I j n;go_wp2_with fail;refine(g.o _ u.o).mono ?_;rintro e w2 N;obtain⟨e,_⟩|⟨_,l,m,rfl,_,C,z⟩:=N
 .cases e
 have G:=bB C;have F:=bB z;clear C z g Q R S T U V X Y;go_wp2;go_ret2;exact ve u.o F.o G.o
end
section
open Go.Maps
structure CB(w W:World)(c:iC)(n:Int)(v:Value):Prop where
 C:nB W w.1.size #[zA c.w,zA c.tl,zA c.ml,zA c.sh,zA c.ha,zA c.sg] 24
 S:nB W (w.1.size+1) #[zA n,v] 40
 B:uB w W
section
variable {w W W':eA} {c:iC} {n n':Int} {v v':Value}
theorem CB.new:CB w ((w.alloc (vA #[zA c.w,zA c.tl,zA c.ml,zA c.sh,zA c.ha,zA c.sg] 24)).alloc (vA #[zA n,v] 40)) c n v:=
 ⟨(nB.new _ _ _).alloc _,by have:=nB.new (w.alloc (vA #[zA c.w,zA c.tl,zA c.ml,zA c.sh,zA c.ha,zA c.sg] 24)) #[zA n,v] 40;simpa using this,vB zB zB⟩
theorem CB.z(h:CB w W c n v)(a:uB W W'):CB w W' c n v:=⟨h.C.z a,h.S.z a,vB h.B a⟩
theorem CB.cells(h:CB w W c n v):W.cell? (dB w.1.size 0)=bA (zA c.w)/\W.cell? (dB w.1.size 1)=bA (zA c.tl)/\W.cell? (dB w.1.size 2)=bA (zA c.ml)/\W.cell? (dB w.1.size 3)=bA (zA c.sh)/\W.cell? (dB w.1.size 4)=bA (zA c.ha)/\W.cell? (dB w.1.size 5)=bA (zA c.sg):=
 ⟨h.C.cell 0,h.C.cell 1,h.C.cell 2,h.C.cell 3,h.C.cell 4,h.C.cell 5⟩
theorem CB.scells(h:CB w W c n v):W.cell? (dB (w.1.size+1) 0)=bA (zA n)/\W.cell? (dB (w.1.size+1) 1)=bA v/\W.frozen? (dB (w.1.size+1) 0)=cA/\W.frozen? (dB (w.1.size+1) 1)=cA/\w.1.size+1<W.1.size:=
 ⟨h.S.cell 0,h.S.cell 1,h.S.free 0,h.S.free 1,aB h.S⟩
theorem CB.put(h:CB w W c n v):CB w ((W.setCell (dB (w.1.size+1) 0) (zA n')).setCell (dB (w.1.size+1) 1) v') c n' v':=by
 have a:eB (·=w.1.size+1) W ((W.setCell (dB (w.1.size+1) 0) (zA n')).setCell (dB (w.1.size+1) 1) v'):=((eB.refl (·=w.1.size+1) W).setCell (Ca rfl) 0 _).setCell (Ca rfl) 1 _;exact⟨a.blk h.C (by omega),by have:=(h.S.set 0 (zA n')).set 1 v';simpa using this,h.B.trans (a.below h.B.size λk b e=>by omega)⟩
end
def aPi{G w:eA}{B P D:Nat}{K:yD}{L:iH}{lsn i:Int}{j:List fB}(c:iC)(h:aO G w B P D K L)(C:pY K.fs FI (rI lsn i j,((rI lsn i j).size:Int)))(S:nC c i j=dA)(U:BD lsn j)(V:TW j)(X:wU i)(Y:(rI lsn i j).size<=1000000)(y:yA j+cC j<=1048576)(M:uG w):
 gA prog 69 #[.pointer (yB P),rE c] w λe q=>CkX c lsn i j w e q:=by
 obtain⟨d,f,_⟩:=rG h.valid;obtain⟨v,F⟩:=h.drive;obtain⟨a,I,rfl,O⟩:=F.files;obtain⟨G,e1,Z,e3⟩:=CT (gT d) C;obtain⟨b,o,rfl,N,g0,J,g2⟩:=O.at G;rw[(Prod.mk.inj Z).1]at J;have G:=bB (λW(s:uB w W)=>kO (bA (dB b o)) I K.fs FI W (O.z s) (gT d) (by omega));rw[e3]at G;have r:=bB (λW(s:uB w W) a p(ht:xC W a j)=>AP c i a p j 1900000 W ht (wR (by omega)).1 (by omega) (M.z s));have x:=bB (λW(s:uB w W)=>zg c lsn i j W S U V X Y y (M.z s));have k:=bB (show ∀W,uB w W->tC W P 0 (.pointer (yB D))/\tC W D 4 (pA (bA (dB b o)) (yA K.fs) I)/\tC W b (o+gC FI K.fs*3+1) (oA (rI lsn i j)) from λW s=>⟨((h.z s).wr.cells).1,(F.z s).cell4,(s.cell N).trans J⟩);have hDl:=aB F.blk;have hPl:=aB h.wr;have c0:=k.o w iD;unfold BG at r;rw[S]at r;clear h F O C e1 Z e3 g0 J g2 d f S U V X Y y M;unfold rE at *;generalize rI lsn i j=tx at *;generalize gC FI K.fs=h at *;generalize yA K.fs=J at *;go_enter func69,ntmps69;go_wp2_with fail;apply lC (G.o _ CB.new.B);intro w1 z;have Q:=bB ((CB.new (w:=w) (c:=c) (n:=0) (v:=pA aA 0 0)).z z);have T:=Q.o.cells;have G:=k.o w1 Q.o.B;go_wp2_with fail;go_region_held3 (λq=>(q.cell? (dB w.1.size 0)=bA (zA c.w)/\q.cell? (dB w.1.size 1)=bA (zA c.tl)/\q.cell? (dB w.1.size 2)=bA (zA c.ml)/\q.cell? (dB w.1.size 3)=bA (zA c.sh)/\q.cell? (dB w.1.size 4)=bA (zA c.ha)/\q.cell? (dB w.1.size 5)=bA (zA c.sg))/\q.cell? (dB P 0)=bA (.pointer (yB D))/\q.cell? (dB D 4)=bA (pA (bA (dB b o)) J I)/\q.cell? (dB b (o+h*3+1))=bA (oA tx))
  (first|exact⟨u.o.put.cells,k.o _ u.o.put.B⟩|exact⟨u.o.cells,k.o _ u.o.B⟩|exact⟨(Q.o.z iD.drew).cells,k.o _ (Q.o.z iD.drew).B⟩)
  (first|(go_at_call 124;refine(x.o _ (Q.o.z iD.drew).B).mono ?_;rintro e h ⟨H,p,rfl,t,A⟩;have u:=bB ((Q.o.z iD.drew).z A);have G:=u.o.scells))
 have E:=bB (u.o.put (n':=i) (v':=pA H (yA j) p));have I:=bB ((t.turned (((eB.refl (·=w.1.size+1) h).setCell (Ca rfl) 0 (zA i)).setCell (Ca rfl) 1 (pA H (yA j) p)) (λg J R e=>by have:=Q.o.scells.2.2.2.2;simp at J;omega)).tens);generalize (h.setCell (dB (w.1.size+1) 0) (zA i)).setCell (dB (w.1.size+1) 1) (pA H (yA j) p)=h at *;have T:=E.o.cells;obtain⟨G,h,_,_,_⟩:=E.o.scells;go_wp2_with fail;refine(r.o _ E.o.B _ _ I.o).mono ?_;rintro e w2 h;obtain⟨e,_⟩|⟨_,l,m,rfl,_,R,y⟩:=h
 .cases e
 have h:=bB R;have G:=bB y;go_wp2;go_ret2;exact ve E.o.B G.o h.o
end
section
open Go.Maps
def UA(w : World) : Prop := ∃ t p, w.var? prog "strconv.ErrSyntax" = some #[.iface t p]
def UA.z{w c:eA}(h:UA w)(d:uB w c):UA c:=by
 obtain⟨t,p,h⟩:=h;refine⟨t,p,?_⟩;unfold eA.var? at h |-
 cases hg : prog.globalNamed "strconv.ErrSyntax" with
 |none=>rw[hg]at h;cases h
 |some g=>
  rw[hg]at h;simp only[Option.bind_some]at h |-
  have b:g<w.1.size:=by
   rcases Gc g w.1.size with a|a;exact a;rw[Mc a]at h;cases h
  rw[d.block g b];exact h
def aCi(w:eA)(f:UA w):gA prog 195 #[oA FI] w λe g=>∃n,e=uA (xA #[zA n,.bool cA])/\uB w g:=by
 obtain⟨t,p,b⟩:=f;have a:=bB (strconv_Atoi_syntax_var (⟨(Lib.trimPrefix FI.data.toList [119,97,108,45]).toArray⟩:jB) (by decide) (by decide) t p w b);clear b;go_enter func195,ntmps195;go_wp2_with fail;apply lC (strings_TrimPrefix FI ⟨#[119,97,108,45]⟩ w);rintro h rfl;go_wp2_with fail;refine a.o.mono ?_;rintro e i ⟨N,rfl,_,_,c⟩;have d:=bB c;clear c a;go_wp2;go_ret2;exact⟨_,rfl,d.o⟩
def aDm:(List.range 91).all (λn=>match Lib.atoiAll (Lib.trimPrefix (KH n).data.toList [119,97,108,45]) with|.ok v=>v==(n:Int)|_=>cA)=dA:=by kernel_rfl
def sw{n:Int}(m:1<=n)(p:n<=90)(w:eA)(k:sI w):dF 195 #[oA (zE n)] w (xA #[zA n,.bool dA]):=by
 have d:Lib.atoiAll (Lib.trimPrefix (zE n).data.toList [119,97,108,45])=.ok n:=by
  have:=Ke.1 aDm n.toNat (Xg.2 (by omega));rw[OE n m (by omega)];split at this
  .rename_i v d;rw[d,eq_of_beq this];congr 1;omega
  cases this
 have j:cB (dF 241 #[oA (⟨(Lib.trimPrefix (zE n).data.toList [119,97,108,45]).toArray⟩:jB)] w (xA #[zA n,.nilIface])):=(strconv_Atoi_ok _ (by have:=bL n;have:yA (Lib.trimPrefix (zE n).data.toList [119,97,108,45])<=yA (zE n).data.toList:=(by unfold Lib.trimPrefix;split<;>simp);have e:yA (zE n).data.toList=(zE n).size:=rfl;show(Lib.trimPrefix (zE n).data.toList [119,97,108,45]).toArray.size<=_;rw[List.size_toArray];omega) n (by simpa using d) w).mono (by
  rintro e f ⟨rfl,rfl|⟨t,rfl⟩⟩;exact ⟨rfl,iD⟩;exact ⟨rfl,Joins.below_bytesWorld _ _ _ _ (Ia _)⟩)
 have l:=bB k;clear d k;generalize i:zE n=s at *;replace i:=bB i;go_enter func195,ntmps195;go_wp2_with fail;apply lC (strings_TrimPrefix s ⟨#[119,97,108,45]⟩ w);rintro q rfl;go_wp2_with fail;apply lC j.o;intro o b;have g:=bB b;have a:=wL n o (l.o.z b);rw[i.o]at a;replace a:=bB a;clear b j;go_wp2_with fail;apply lC a.o;intro r c;have h:=bB (vB g.o c);clear c a;go_wp2;go_ret2;exact⟨rfl,h.o⟩
def aOh{P D:Nat}{a:mC}{z c:Nat}{f:List iB}{x:Int}{w:eA}(J:w.cell? (dB P 0)=bA (.pointer (yB D)))(U:w.cell? (dB D 4)=bA (pA a (yA f) z))(O:tB w a f)(M:∀i(h:i<yA f),i<c/\f[i].N=FI\/c<=i/\f[i].N=zE (x+((i-c:Nat):Int)))(K:1<=x)(L:x+yA f<=91)(h:c<yA f)(m:sI w)(N:UA w):
 gA prog 125 #[.pointer (yB P)] w λe R=>∃g s,e=uA (pA (yB g) (yA f-c) s)/\(∀i,i<yA f-c->R.cell? (dB g i)=bA (zA (x+i)))/\uB w R:=by
 have S:=bB (λW(A:uB w W)=>aCi W (N.z A));have T:=bB (λn(K:1<=n)(L:n<=90) W(A:uB w W)=>sw K L W (m.z A));have V:=bB O;have Y:=bB M;clear O M m N;go_enter func125,ntmps125;go_wp2;go_loopw [3,16] (λE i wr=>∃k:Nat,k<=yA f/\i=zA k/\cB (uB w wr)/\(∃q r,E=pA q (k-c) r/\(c<k->∃g,q=yB g)/\cB (wr.ownsRow w.1.size 3 1 (pA q (k-c) r) (k-c) ((List.range (k-c)).map λi=>Value.int mA (x+(i:Nat)))))) (λ_ i _=>yA f-(intOf i).toNat)
 case atStart=>exact⟨0,by omega,rfl,iD,aA,0,by simp,by omega,bB (by simpa using eA.ownsRow_nil _ _ _ _)⟩
 case round=>
  obtain⟨k,O,rfl,d,q,r,rfl,O,p⟩:=hrel;clear J U;by_cases u:k<yA f
  .obtain ⟨b,o,rfl,hb,G,H,I⟩:=(V.o.z d.o).at u;have X:=Y.o k u;generalize f[k].N=nm at *;generalize f[k].data=J at *;generalize f[k].Y=J at *;obtain⟨C,rfl⟩|⟨C,rfl⟩:=X
   .generalize FI=cn at *;go_wp2_with fail;refine(S.o _ (vB d.o zB)).mono ?_;rintro e w1 ⟨y,rfl,l⟩;have j:=bB (vB zB l);clear l G H I;go_wp2;refine⟨⟨k+1,by omega,by go_num,bB (vB d.o j.o),q,r,?_,by omega,?_⟩,by simp[intOf];omega⟩
    .congr 1;omega
    have:=hC p.o j.o;rw[show k+1-c=k-c by omega];exact this
   have U:=bB (T.o (x+((k-c:Nat):Int)) (by omega) (by omega));generalize zE (x+((k-c:Nat):Int))=J at *;go_wp2_with fail;apply lC (U.o _ (vB d.o zB));intro w1 l;have j:=bB (vB zB l);have F:=bB (hC p.o j.o);replace d:=bB (vB d.o j.o);clear l j p G H I;go_wp2_with(at_builtin;refine kI rfl _ _ rfl underlying26 iw rfl (by omega) (by omega) (B:=w.1.size) (v:=pA q (k-c) r) rfl F.o rfl rfl (cs:=#[zA (x+((k-c:Nat):Int))]) rfl (by simp[Value.oneCell']) (by omega) d.o.size ?_;intro J t U p Z U);refine⟨⟨k+1,by omega,by go_num,bB (d.o.trans (Z.o.below d.o.size λi Q e=>by have:=F.o.lt i e.2;omega)),yB J,t,?_,λ_=>⟨J,rfl⟩,?_⟩,by simp[intOf];omega⟩
   .congr 1;omega
   have:=p.o;rw[show k+1-c=k-c+1 by omega,List.range_succ,Ld];exact this
  obtain rfl:k=yA f:=by omega
  obtain⟨g,rfl⟩:=O h;go_wp2;go_ret;exact⟨g,r,rfl,λi Q=>by have:=p.o.cells rfl i (zA (x+(i:Nat))) (by simp[Q]);rwa [ZF]at this,d.o⟩
end
