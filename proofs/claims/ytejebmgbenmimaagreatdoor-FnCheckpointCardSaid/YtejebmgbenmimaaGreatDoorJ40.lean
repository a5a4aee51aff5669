import Derived.Test.YtejebmgbenmimaaGreatDoorJ47
import Derived.Lib.SmallJoins
set_option maxRecDepth 100000
set_option maxHeartbeats 4000000
set_option linter.defProp false
open Bool renaming true->iA,false->gA
open Option renaming some->fA,none->eA
open ByteArray renaming empty->pA
open List renaming length->cB
namespace Go.Proofs.YtejebmgbenmimaaGreatDoor
open Go renaming World->jA,Calls->lA
open Value renaming string->tA,slice->uA,pointer->xA,int->qA,tuple->bB
open Ending renaming returned->zA
open IntKind renaming i64->sA
open Go.RowKit Tryz
section
open Go.Maps
section
variable {w0 w W:jA} {D Lo:Nat} {r:fH} {sa:nC} {sc:Nat} {c:kC} {a:nC} {ca:Nat} {b:nC} {cb:Nat} {N:vC} {l m M:Nat} {B A:Nat→Prop}
theorem ZP(v:Int)(W:jA):gF 105 #[dB v] W (tA (uB 8 v)):=oN (k:=8) (La (La ⟨rfl,rfl⟩)) v W
theorem aEo{c:kC}{t:kB}{d:vB}:0<=(uE c t d).1:=by
 unfold uE;split<;>simp
theorem aLh{W:jA}{x y z:vB}(h:x.size+y.size+z.size<=100000):lA prog 108 #[uA (cC W.1.size) 3 3] (W.alloc (.cells #[tA x,tA y,tA z] 9)) λe f=>e=zA (tA (x++y++z))/\zB W f:=by
 have i:=rB.new W #[tA x,tA y,tA z] 9;refine(mI W.1.size 3 3 [x,y,z] _ rfl (λj q d=>?_) (by simp) (by simp) (by simp) (by simp[jG];omega)).mono ?_
 .rw[Ya,i.cell];match j,d with
  |0,d|1,d|2,d=>simp at d;subst d;rfl
 rintro e f ⟨rfl,g⟩;exact⟨by simp[xF,Wa],xB aC g⟩
theorem jp(h:fU Lo w0 w D r sa sc c a ca b cb N l m M B A)(t:r.K=5)(u:xC r.T=iA)(x:r.T.size+r.R.size<=200000):
 lA prog 101 #[.pointer (cC D)] w λe F=>DI (lJ c N r) D r sa sc c l Lo w0 e F:=by
 rw[aKv h.st t u aEo];have p:=h.tabs (jB.of (Below.refl _ w));have o:=gB (λW s(d:zB w W)=>h.same (jB.of d) (s:=s));have n:=gB (wS r.R w (by omega) p.1);have v:=gB (λW(d:zB w W)=>sj l m r.T r.R c N.now B N.ts M W (h.led.z d) (by unfold maxLen;omega) (by unfold maxLen;omega) (aJg h.st _));have k:=gB (λW(d:zB w W)=>iI (h.dsk.z d));have y:=oB 1 0;have z:=oB 8 (uE c (eC N.ts r.T) r.R).1;have E:=oB 8 (uE c (eC N.ts r.T) r.R).2;clear h t u x p;generalize uE c (eC N.ts r.T) r.R=C at *;generalize (r.R.toList.isEmpty||dF r.R)=q at *;have j:=k.o _ jD;go_enter func101,ntmps101;go_wp2_with fail;apply oC n.o;intro H d;have i:=gB d;clear d j n;have j:=k.o _ i.o;cases q
 .go_wp2_with (first|(go_at_call 28;apply oC (tU _ _);intro G d;replace d:=gB d));go_ret;exact o.o _ _ (xB i.o d.o)
 go_upto_region 3 with fail;go_region_law (refine jF (f:=182) (args:=#[.pointer (cC l),tA r.T,tA r.R]) rfl (by go_simp) ?_;apply oC (v.o _ i.o.drew);intro G d;have g:=gB (xB i.o.drew d);clear d;refine⟨_,rfl,?_⟩)
 all_goals
  clear j;go_wp2_with(first
   |(go_at_call 28;apply oC (tU _ _);intro I d;replace g:=gB (xB g.o d);clear d)
   |(go_at_call 105;apply oC (ZP _ _);intro J d;replace g:=gB (xB g.o d);clear d)
   |(go_at_call 108;refine oC (aLh (by omega)) ?_;intro K d;replace d:=gB d))
  go_ret;exact o.o _ _ (xB g.o d.o)
end
end
section
open Go.Maps
section
variable {w0 w W:jA} {D Lo:Nat} {r:fH} {sa:nC} {sc:Nat} {c:kC} {a:nC} {ca:Nat} {b:nC} {cb:Nat} {N:vC} {l m M:Nat} {B A:Nat→Prop}
theorem sy(h:fU Lo w0 w D r sa sc c a ca b cb N l m M B A)(hk:r.K=6)(ht:xC r.T=iA)(hz:r.T.size<=200000):
 lA prog 102 #[xA (fA ⟨D,0,eA⟩)] w λe I=>DI (lJ c N r) D r sa sc c l Lo w0 e I:=by
 rw[aKw hk ht];obtain⟨z1,z2⟩:(cB (eC N.ts r.T).M<=2000000/\∀i(h:i<cB (eC N.ts r.T).M),(eC N.ts r.T).M[i].s.size<=1900000)/\(cB (eC N.ts r.T).Z<=2000000/\∀i(h:i<cB (eC N.ts r.T).Z),(eC N.ts r.T).Z[i].s.size<=1900000):=by
  have d:=h.bulk;obtain⟨_,q1,q2,q3,q4⟩:=IM (tenant:=r.T) (nR (ts:=N.ts) (by omega)) (by omega);exact⟨⟨by omega,λi E=>q1 _ (Gb E)⟩,by omega,λi E=>q2 _ (Gb E)⟩
 have HS:=gB (λW s(d:zB w W)=>h.same (jB.of d) (s:=s));have HF:=gB (λW(d:zB w W)=>bp l m r.T c N.now B N.ts M W (h.led.z d) (by unfold maxLen;omega));have HT:=gB (λW x S P(E:yD W S x (eC N.ts r.T) P)=>ic x r.T (eC N.ts r.T) S P W E (λi h=>by have:=z1.2 i h;unfold maxLen;omega) (λi h=>by have:=z2.2 i h;unfold maxLen;omega) z1.1 z2.1);have V:=gB (λW(d:zB w W)=>iI (h.dsk.z d));have HZ:=gB z2.2;have hl:=z2.1;clear h hk ht hz z1 z2;unfold VU at HF;generalize eC N.ts r.T=t at *;generalize N.now=j at *;obtain⟨VV,EV⟩:∃v,v=uB 1 0++uB 8 j++uB 4 (cB t.Z:Nat)++nE t.Z:=⟨_,rfl⟩
 rw[<-EV];replace EV:=gB EV;have T:=V.o _ jD;go_enter func102,ntmps102;go_upto_region 1 with fail;go_cut [3,4] (λx y wx=>∃x' b S P,x=xA (fA ⟨x',0,eA⟩)/\y=.bool b/\yD wx S x' t P/\rB wx l (fV c j m) 169/\zB w wx)
 case first=>
  go_region_law (refine jF (f:=183) (args:=#[xA (fA ⟨l,0,eA⟩),tA r.T]) rfl (by go_simp) ?_;refine(HF.o _ jD.drew).mono ?_;rintro e w1 ⟨x,y,S,P,rfl,E,Z,d⟩;have E1:=gB (Vc E (Vc Z (xB jD.drew d)));clear E Z d;refine⟨_,rfl,?_⟩)
  all_goals(go_wp2;go_meet)
  all_goals exact⟨_,_,_,_,rfl,rfl,E1.o⟩
 obtain⟨x,y,S,P,rfl,rfl,E,Z,d⟩:=hcut;rename jA=>w1;have HI:=gB E;have L1:=gB Z;have B1:=gB d;clear E Z d T HF;have T:=V.o _ B1.o;have fs:=NS;go_wp2_with fail;refine(HT.o _ _ _ _ HI.o).mono ?_;rintro e F ⟨v1,v2,M2,rfl,_,_,_,_,ho,d⟩;obtain⟨a2,d2,rfl⟩:=nK ho;have PS:=gB (rD ho).pairs;have L2:=gB (L1.o.z d);have B2:=gB (xB B1.o d);clear ho d T HI L1 B1 HT;have T:=V.o _ B2.o;go_upto_region 3 with fail;have hz1:=oB 1 0;have hz2:=oB 8 j;have hz3:=oB 4 (cB t.Z:Nat);have u:=gB (λW(d:zB F W)=>(⟨(V.o W (xB B2.o d)).1.2.2.2.2.2.2.2.2.2.2.2.2.2.2.2.2.2.2.2.2.2.2.2.2.2,(L2.o.z d).cell 6⟩:gD W D 25 (xA (fA ⟨l,0,eA⟩))/\gD W l 6 (qA sA j)));have xy:=(u.o _ jD).2;go_cut [6] (λs wx=>∃g,s=uA (fA ⟨g,0,eA⟩) 3 3/\TE F wx g 3 [uB 1 0,uB 8 j,uB 4 (cB t.Z:Nat)])
 case first=>
  go_region_held3 (λW=>W.cell? ⟨D,25,eA⟩=fA (xA (fA ⟨l,0,eA⟩))/\W.cell? ⟨l,6,eA⟩=fA (qA sA j))
   (first|go_keep|with_reducible exact u.o _ k4|with_reducible exact u.o _ k3|with_reducible exact u.o _ k2|with_reducible exact u.o _ jD.drew)
   (first
    |(go_at_call 28;apply oC (tU _ _);intro w3 L;have k2:zB F w3:=(by exact xB jD.drew L))
    |(go_at_call 105;apply oC (ZP _ _);intro w4 O;have k3:zB F w4:=(by exact xB k2 O))
    |(go_at_call 106;apply oC (oQ _ _);intro w5 hb5;have k4:zB F w5:=(by exact xB k3 hb5)))
  all_goals(go_wp2_with fail;go_meet)
  all_goals exact⟨_,rfl,⟨rfl,La ⟨_,3,_,rfl,k4.size,heap_alloc_new _ _,Ia _,by simp[maxLen],rfl,rfl⟩⟩,xB k4 aC⟩
 obtain⟨g0,rfl,h0⟩:=hcut;rename jA=>w3;have H3:=gB h0;clear T xy h0 u V fs L2;generalize uB 1 0=N1 at *;generalize uB 8 j=N2 at *;generalize uB 4 (cB t.Z:Nat)=N3 at *;generalize t.Z=ss at *;go_wp2;go_loopw [6,8,45] (λout _ i wr=>∃(k:Nat)(p:List vB)(g cv:Nat),k<=cB ss/\i=qA sA k/\out=uA (fA ⟨g,0,eA⟩) (cB p) cv/\cB p<=3+2*k/\jG p<=100+k*2000000/\fB (p=[N1,N2,N3]++pO (ss.take k))/\fB (TE F wr g cv p)) (λ_ _ i _=>cB ss-(intOf i).toNat)
 case atStart=>exact⟨0,[N1,N2,N3],_,_,Oa _,rfl,rfl,by simp,by simp[jG];omega,by refine gB ?_;simp[pO],H3.o⟩
 case round=>
  clear H3;obtain⟨k,p,g,cv,hk,rfl,rfl,hpl,hps,HR,H⟩:=hrel;by_cases G:k<cB ss
  .obtain ⟨b,o,rfl,d,c0,c1'⟩:=(PS.o.z H.o.bel).at G;have X:=gB (λW=>jL ss[k].s W (by have:=HZ.o k G;omega));have HX:=gB (show p++[eG ss[k].s,uB 8 ss[k].n]=[N1,N2,N3]++pO (ss.take (k+1)) by rw[KA ss k G,HR.o,Nd]);have hq3:=kF ss[k].s;have hq4:=oB 8 ss[k].n;have hq5:=HZ.o k G;have HN8:=gB (λW=>ZP ss[k].n W);generalize eG ss[k].s=S3 at *;generalize uB 8 ss[k].n=S4 at *;generalize ss[k].s=R at *;generalize ss[k].n=Q at *;have U:=gB (rB.new wr #[tA R,qA sA Q] 109);have H1:=gB (H.o.z (uF wr (.cells #[tA R,qA sA Q] 109)));have hgB:=(cH H.o.row).2.1;clear HR H;go_upto_region 7 with fail;generalize wr.alloc (.cells #[tA R,qA sA Q] 109)=W at *;have hBX:=eB U.o;clear d c0 c1';generalize wr.1.size=K at *;clear wr;have C:fB (∀I,zB W I->gD I K 0 (tA R)/\gD I K 1 (qA sA Q)):=λI h=>(U.o.z h).c2;have T:=C.o W jD;go_region_held3 (λI=>I.cell? ⟨K,0,eA⟩=fA (tA R)/\I.cell? ⟨K,1,eA⟩=fA (qA sA Q))
    (first|go_keep|exact J|exact C.o _ (z.alloc z.size _)|exact C.o _ z|exact C.o _ a0)
    (first
     |(go_at_call 117;apply oC (X.o _);intro w3 L;have a0:zB W w3:=(Below.refl _ W).drew.trans L)
     |(go_at_call 105;apply oC (HN8.o _);intro w4 O;have z:zB W w4:=xB a0 O)
     |(refine PY (by exact H1.o.z z) (by rfl) _ _ (by rfl) (by rfl) (by rfl) (by rfl) (by omega) ?_;intro g5 Y w5 H5 d0;have J:gD w5 K 0 (tA R)/\gD w5 K 1 (qA sA Q):=(by have q:=C.o _ z;have e0:=d0 K (by have:=z.size;omega) (by omega);exact⟨(jA.cell?_of_block e0).trans q.1,(jA.cell?_of_block e0).trans q.2⟩)))
   have hle:cB (p++[S3,S4])=cB p+2:=by simp
   have hsm:jG (p++[S3,S4])=jG p+(S3.size+S4.size):=by rw[vH];simp[jG]
   replace H5:=gB H5;rw[<-hle];clear J d0;generalize p++[S3,S4]=ps5 at *;go_wp2;exact⟨⟨k+1,ps5,g5,Y,by omega,by go_num,rfl,by omega,by omega,HX,H5⟩,by simp[intOf];omega⟩
  have E2:fB (xF p=VV):=by
   show _=_;rw[EV.o,HR.o,oG,dW,Ra (by omega)];simp[xF,Wa]
  obtain⟨hcv,hg,b0⟩:=cH H.o.row;have HJ:=gB (mI g (cB p) cv p wr rfl b0 hg hcv (by omega) (by omega));rw[E2.o]at HJ;clear b0;go_wp2_with fail;apply oC HJ.o;intro w4 d;replace d:=gB d;go_wp2;go_ret;exact HS.o _ _ (xB (xB B2.o H.o.bel) d.o)
end
end
structure FY(K:eE)(p r:Nat):Prop where
 v:rE K.fs K.c K.k K.cr K.fl=iA
 c:K.c=1000000
 cr:K.cr=0
 fl:K.fl=0
 dn:K.dn=gA
 k:K.k≤p
 l:cB K.fs≤p
 m:tC K.fs≤r
def GA(a:List nB)(x:vB)(n:vB×Int):Prop:=∃f∈a,f.N=x/\(f.data,f.Y)=n
def qz(a:List nB)(x:vB):Prop:=∃n,GA a x n
def it(F a:List nB)(x:vB)(n:vB×Int):Prop:=∀y j,GA F y j ↔ if y=x then j=n else GA a y j
def pq{f:nB}:∀{a:List nB}{g:nB},g∈mG a f ↔ g=f\/g∈a
 |[],g=>by simp[mG]
 |x::r,g=>by
  have:=@pq f r g;rw[mG];split<;>simp only[Lb,this]<;>grind
def BZ{b:List nB}{t y:vB}{j:vB×Int}:GA (yC b t) y j ↔ y≠t/\GA b y j:=by
 unfold GA yC;constructor;rintro ⟨f,a,rfl,h⟩;obtain⟨d,c⟩:=De.1 a;exact⟨λe=>by rw[e]at c;simp at c,f,d,rfl,h⟩;rintro ⟨g,f,a,rfl,h⟩;exact⟨f,De.2 ⟨a,by rw[aE g];rfl⟩,rfl,h⟩
def WZ{b:List nB}(g:nB):it (tG b g) b g.N (g.data,g.Y):=by
 intro y j;have:GA (tG b g) y j ↔ (g.N=y/\(g.data,g.Y)=j)\/GA (yC b g.N) y j:=by
  unfold GA tG;simp only[pq];grind
 rw[this,BZ];split
 .rename_i h;exact⟨λa=>by obtain a|a:=a;exact a.2.symm;exact absurd h a.1,λa=>Ca ⟨h.symm,a.symm⟩⟩
 rename_i h;exact⟨λa=>by obtain a|a:=a;exact absurd a.1.symm h;exact a.2,λa=>La ⟨h,a⟩⟩
def JI{a:List nB}{x:vB}{n:vB×Int}(b:mT a)(h:GA a x n):∃c:gC x a<cB a,a[gC x a].N=x/\(a[gC x a].data,a[gC x a].Y)=n/\tH a x (gC x a)=iA:=by
 obtain⟨f,j,rfl,rfl⟩:=h;obtain⟨i,c,rfl⟩:=Ib j;cases hb:tH a a[i].N (gC a[i].N a) with
 |false=>exact absurd rfl (GR b hb i c)
 |true=>
  obtain⟨g,d⟩:=AA hb;have e:gC a[i].N a=i:=by
   rcases Nat.lt_trichotomy (gC a[i].N a) i with q|q|q
   .have:=b _ _ q c;rw[d,iF]at this;cases this
   .exact q
   have:=b _ _ q g;rw[d,iF]at this;cases this
  exact⟨g,d,by simp only[e],rfl⟩
def aAs{a:List nB}{x:vB}(h:¬qz a x):tH a x (gC x a)=gA:=by
 cases hb:tH a x (gC x a) with
 |false=>rfl
 |true=>
  obtain⟨c,b⟩:=AA hb;exact absurd ⟨_,_,Gb c,b,rfl⟩ h
section
variable {K:eE} {k m:Nat} {n:vB×Int} {x z:vB} {op:yK} {F:List nB}
theorem FY.asc(h:FY K k m):mT K.fs:=kS (nH h.v).1
theorem bv(h:FY K k m)(r:k<999)(b:GZ op=iA)(i:iN K.fs K.c op=(0,F)){m':Nat}(p:tC F<=m')(s:cB F<=cB K.fs+1):∃a,fF K op=(a,0)/\FY a (k+1) m'/\a.fs=F:=by
 have e:rE (tI K.fs K.c K.k K.cr K.fl K.dn op).2.1 K.c (tI K.fs K.c K.k K.cr K.fl K.dn op).2.2.1 K.cr K.fl=iA:=NG h.v b;have j:=h.k;have o:=h.l;have g:mD K.k K.cr K.fl K.dn=(0,K.k+1,gA):=by
  unfold mD;rw[Ja (by rw[h.dn];decide),Ja (by omega),Ja (λq=>q.1 h.cr),Ja (λq=>q.1 h.fl)]
 have d:tI K.fs K.c K.k K.cr K.fl K.dn op=(0,F,K.k+1,gA):=by
  unfold tI;rw[g,Ma rfl,i]
 rw[d]at e;exact⟨⟨F,K.c,K.k+1,K.cr,K.fl,gA⟩,by rw[gy h.v b,d],⟨e,h.c,h.cr,h.fl,rfl,by show K.k+1<=_;omega,by show cB F<=_;omega,p⟩,rfl⟩
theorem kl(h:FY K k m)(j:k<999)(o:gG x=iA)(p:¬qz K.fs x):∃a,fF K ⟨1,x,⟨#[]⟩,⟨#[]⟩,0⟩=(a,0)/\FY a (k+1) m/\it a.fs K.fs x (pA,0):=by
 have b:=aAs p;have s:=h.l;have i:iN K.fs K.c ⟨1,x,⟨#[]⟩,⟨#[]⟩,0⟩=(0,tG K.fs ⟨x,pA,0⟩):=by
  rw[vV (f:=⟨x,pA,0⟩) h.asc b];unfold iN;simp only[b];rw[Ma trivial,Ja (by decide),Ja (by omega)]
 have r:(gC x K.fs)<=cB K.fs:=(bJ x h.asc).1;obtain⟨a,d,e,g⟩:=bv h j (by simp[GZ,dC,o]) i (m':=m) (by
  rw[vV (f:=⟨x,pA,0⟩) h.asc b,fX];exact h.m) (by
  rw[vV (f:=⟨x,pA,0⟩) h.asc b,xN _ _ _ r];exact Ia _)
 exact⟨a,d,e,by rw[g];exact WZ _⟩
theorem aAp(h:FY K k m)(b:GA K.fs x n)(g:nB)(c:g.N=x):it (K.fs.set (gC x K.fs) g) K.fs x (g.data,g.Y)/\tC (K.fs.set (gC x K.fs) g)+n.1.size=tC K.fs+g.data.size/\cB (K.fs.set (gC x K.fs) g)<=cB K.fs+1:=by
 obtain⟨a,d,rfl,e⟩:=JI h.asc b;subst c;refine⟨?_,yL _ _ _ a,by rw[Pd];omega⟩;rw[<-FW h.asc a d];exact WZ _
theorem aAn(h:FY K k m)(j:k<999)(l:gG x=iA)(b:GA K.fs x n){t:vB}(y:m+t.size<=1000000):∃a,fF K ⟨2,x,⟨#[]⟩,t,0⟩=(a,0)/\FY a (k+1) (m+t.size)/\it a.fs K.fs x (n.1++t,n.2):=by
 obtain⟨i,d,e,g⟩:=JI h.asc b;subst e;obtain⟨o,p,r⟩:=aAp h b ⟨x,K.fs[gC x K.fs].data++t,K.fs[gC x K.fs].Y⟩ rfl;have A:=h.m;have w:=h.c;simp only[Ka]at p;obtain⟨a,s,u,v⟩:=bv (op:=⟨2,x,⟨#[]⟩,t,0⟩) h j (by simp[GZ,dC,l]) (by
  unfold iN;simp only[Va i,g,d];rw[Ja (by decide),Ja (by decide),Ma trivial,Ja (by omega)]) (m':=m+t.size) (by omega) r
 exact⟨a,s,u,by rw[v];exact o⟩
theorem aAq(h:FY K k m)(i:k<999)(j:gG x=iA)(b:GA K.fs x n):∃a,fF K ⟨3,x,⟨#[]⟩,⟨#[]⟩,0⟩=(a,0)/\FY a (k+1) m/\it a.fs K.fs x (n.1,(n.1.size:Nat)):=by
 obtain⟨g,c,d,e⟩:=JI h.asc b;subst d;obtain⟨l,o,p⟩:=aAp h b ⟨x,K.fs[gC x K.fs].data,(K.fs[gC x K.fs].data.size:Nat)⟩ rfl;have u:=h.m;dsimp only at o;obtain⟨a,r,s,t⟩:=bv (op:=⟨3,x,⟨#[]⟩,⟨#[]⟩,0⟩) h i (by simp[GZ,dC,j]) (by
  unfold iN;simp only[Va g,e,c];rw[Ja (by decide),Ja (by decide),Ja (by decide),Ma trivial]) (m':=m) (by omega) p
 exact⟨a,r,s,by rw[t];exact l⟩
theorem aAo(h:FY K k m)(g:GA K.fs x n):K.fs.eraseIdx (gC x K.fs)=yC K.fs x/\tC (yC K.fs x)+n.1.size=tC K.fs/\cB (yC K.fs x)<=cB K.fs:=by
 obtain⟨a,c,d,i⟩:=JI h.asc g;subst d;have e:K.fs.eraseIdx (gC x K.fs)=yC K.fs x:=by
  have:=gQ h.asc a;rw[c]at this;exact this.symm
 have b:=bR K.fs _ a;rw[e]at b;exact⟨e,b,Pc _ _⟩
theorem aIr(h:FY K k m)(o:k<999)(p:gG x=iA)(s:gG z=iA)(c:GA K.fs x n):∃a,fF K ⟨5,x,z,⟨#[]⟩,0⟩=(a,0)/\FY a (k+1) m/\∀y j,GA a.fs y j ↔ if y=z then j=n else y≠x/\GA K.fs y j:=by
 obtain⟨i,B,d,e⟩:=JI h.asc c;subst d;obtain⟨u,G,H⟩:=aAo h c;have E:=h.m;have C:=BL (λf=>!(f.N.toList==z.toList)) (yC K.fs x);have D:cB (yC (yC K.fs x) z)<=_:=Pc _ _;have b:∀(l:List nB)(f:nB),cB (mG l f)=cB l+1:=λl f=>by
  induction l with
  |nil=>rfl
  |cons g r t=>unfold mG;split<;>simp[t]
 obtain⟨a,v,w,A⟩:=bv (op:=⟨5,x,z,⟨#[]⟩,0⟩) (F:=tG (yC K.fs x) ⟨z,K.fs[gC x K.fs].data,K.fs[gC x K.fs].Y⟩) h o (by simp[GZ,dC,p,s]) (by
  unfold iN;simp only[Va i,e,u];rw[Ja (by decide),Ja (by decide),Ja (by decide),Ja (by decide),Ja (by decide),Ma trivial]) (m':=m) (by
  rw[tG,FR];unfold yC at *;dsimp only at *;omega) (by
  rw[tG,b];dsimp only;omega)
 refine⟨a,v,w,λy j=>?_⟩;rw[A,WZ];dsimp only;rw[BZ]
theorem aIq(h:FY K k m)(e:k<999)(g:gG x=iA)(b:qz K.fs x):∃a,fF K ⟨6,x,⟨#[]⟩,⟨#[]⟩,0⟩=(a,0)/\FY a (k+1) m/\∀y j,GA a.fs y j ↔ y≠x/\GA K.fs y j:=by
 obtain⟨n,b⟩:=b;obtain⟨d,r,s,c⟩:=JI h.asc b;obtain⟨i,u,v⟩:=aAo h b;have t:=h.m;obtain⟨a,l,o,p⟩:=bv (op:=⟨6,x,⟨#[]⟩,⟨#[]⟩,0⟩) (F:=yC K.fs x) h e (by simp[GZ,dC,g]) (by
  unfold iN;simp only[Va d,c,i];rw[Ja (by decide),Ja (by decide),Ja (by decide),Ja (by decide),Ja (by decide),Ja (by decide)]) (m':=m) (by omega) (by omega)
 exact⟨a,l,o,λy j=>by rw[p,BZ]⟩
end
def FJ{i j:Int}(g:1<=i/\i<=90)(l:1<=j/\j<=90)(h:tF i=tF j):i=j:=by
 rw[LW _ g.1 (by omega),LW _ l.1 (by omega)]at h;have a:xX i.toNat 6=xX j.toNat 6:=by
  have:=Kd (λs:vB=>s.data.toList) h;simpa[PN]using this
 simp only[xX,List.cons.injEq,Cc]at a;obtain⟨-,-,-,-,d,e⟩:=a;have b:=Kd UInt8.toNat (UInt8.add_right_inj _ |>.1 d);have c:=Kd UInt8.toNat (UInt8.add_right_inj _ |>.1 e);simp at b c;omega
def qU(i:Int):tF i≠FZ/\tF i≠vP:=by
 unfold tF;split
 .have h:∀l:List UInt8,∀b:vB,b.data.toList.head?≠fA 119->(⟨(119::l).toArray⟩:vB)≠b:=λl b a e=>by subst e;exact a rfl
  exact⟨h _ _ (by decide),h _ _ (by decide)⟩
 exact ⟨by decide,by decide⟩
def aDc{i:Int}(a:1<=i)(b:i<=90):Op.bytesLess (tF i).toList FZ.toList=gA:=by
 rw[ByteArray.toList_eq,ByteArray.toList_eq];unfold tF;rw[Ma ⟨a,by omega⟩];rfl
structure im(K:eE)(L:aI)(q m:Nat):Prop where
 b:1≤L.first∧L.first≤L.last∧L.last≤q
 z:0≤L.size∧L.size≤m
 lo:∀i,L.first≤i→i≤L.last→qz K.fs (tF i)
 hi:∀x,qz K.fs x→x=FZ∨∃i,L.first≤i∧i≤L.last∧x=tF i
section
variable {K:eE} {L:aI} {k m q:Nat} {n:vB×Int} {f:vB}
theorem FA{F a:List nB}{x y:vB}(h:it F a x n):qz F y ↔ y=x\/qz a y:=by
 unfold qz;simp only[h _ _];by_cases e:y=x<;>simp[e]
theorem im.ok(h:im K L q m)(g:q<=80)(e:m<=1000000):rL L=iA:=by
 obtain⟨a,c,d⟩:=h.b;have:=h.z;simp[rL,dC];omega
theorem im.put(h:im K L q m){c:eE}{x:vB}{j:vB×Int}(d:it c.fs K.fs x j)(l:qz K.fs x):im c L q m:=
 ⟨h.b,h.z,λi e g=>(FA d).2 (La (h.lo i e g)),λy a=>h.hi y (by rcases(FA d).1 a with rfl|a;exact l;exact a)⟩
theorem oy(h:FY K k m)(l:im K L q m)(B:q<=80)(A:k<990)(t:m+f.size<=1000000):∃a,lR K L f=(a,⟨L.first,L.last,L.size+f.size⟩,0)/\FY a (k+2) (m+f.size)/\im a ⟨L.first,L.last,L.size+f.size⟩ q (m+f.size):=by
 obtain⟨w,j,y⟩:=l.b;have C:=l.z;have e:=oP L.last (by omega) (by omega);obtain⟨n,d⟩:=l.lo L.last j (Xd _);obtain⟨v,o,r,c⟩:=aAn h (by omega) e d t;obtain⟨i,p,s,u⟩:=aAq r (by omega) e ((c _ _).2 (by rw[Ma rfl]));have g:=(l.put c ⟨_,d⟩).put u ((FA c).2 (Ca rfl));refine⟨i,?_,s,⟨l.b,by dsimp only;omega,g.lo,g.hi⟩⟩;unfold lR iK xW;rw[o];dsimp only;rw[p];rfl
theorem yw(h:FY K k m)(l:im K L q m)(V:q<80)(T:k<980){p:vB}(M:1<=p.size/\p.size<=60000)(U:m+8+p.size<=1000000){d:Int}(N:dC d 1 1000000000=iA):∃j L',zH K L p d=(j,L',0)/\FY j (k+3) (m+8+p.size)/\im j L' (q+1) (m+8+p.size):=by
 have w:=JL M;have G:pF p≠pA:=λe=>by rw[e]at w;simp at w;omega
 obtain⟨Q,R,S⟩:=l.b;have J:=l.z;have I:=l.ok (by omega) (by omega);rw[show m+8+p.size=m+(pF p).size by omega];unfold zH;rw[Ja (by simp[I,N]),Ja G];split
 .have s:¬qz K.fs (tF (L.last+1)):=λH=>by
   rcases l.hi _ H with e|⟨i,y,O,e⟩;exact (qU _).1 e;have:=FJ (by omega) (by omega) e;omega
  obtain⟨B,C,D,A⟩:=kl h (by omega) (oP _ (by omega) (by omega)) s;have P:im B ⟨L.first,L.last+1,0⟩ (q+1) m:=⟨by dsimp only;omega,by dsimp only;omega,λi u E=>(FA A).2 (by
   dsimp only at u E;by_cases e:i=L.last+1
   .exact Ca (by rw[e])
   .exact La (l.lo i u (by omega))),λx t=>by
   rcases(FA A).1 t with rfl|t;exact La ⟨_,by dsimp only;omega,Xd _,rfl⟩;rcases l.hi x t with e|⟨i,y,O,e⟩;exact Ca e;exact La ⟨i,y,by dsimp only;omega,e⟩⟩
  obtain⟨o,r,a,g⟩:=oy (f:=pF p) D P (by omega) (by omega) (by omega);refine⟨o,_,?_,a,g⟩;unfold pI;rw[Ja (by omega),C];dsimp only;rw[Ja (by simp),r]
 .obtain ⟨o,r,a,g⟩:=oy (f:=pF p) h l (by omega) (by omega) (by omega);exact⟨o,_,r,⟨a.v,a.c,a.cr,a.fl,a.dn,by have:=a.k;omega,by have:=a.l;omega,a.m⟩,⟨by dsimp only;omega,g.z,g.lo,g.hi⟩⟩
theorem bc(s:Int)(w:1<=s):∀(n:Nat),s+n<=90->∀{K:eE}{k:Nat},FY K k m->k+n<999->(∀i:Nat,i<n->qz K.fs (tF (s+i)))->∃c,bL K (lQ s n)=(c,0)/\FY c (k+n) m/\∀y j,GA c.fs y j ↔ (∀i:Nat,i<n->y≠tF (s+i))/\GA K.fs y j
 |0,_,K,_,h,_,_=>⟨K,rfl,h,λy j=>⟨λh=>⟨λi a=>absurd a (by omega),h⟩,λh=>h.2⟩⟩
 |n+1,E,K,k,h,D,l=>by
  obtain⟨C,g,t,o⟩:=bc s w n (by omega) h (by omega) λi a=>l i (by omega);obtain⟨x,A⟩:=l n (by omega);obtain⟨p,r,u,B⟩:=aIq (x:=tF (s+n)) t (by omega) (oP _ (by omega) (by omega)) ⟨x,(o _ _).2 ⟨λi a e=>by have:=FJ (by omega) (by omega) e;omega,A⟩⟩;refine⟨p,?_,u,λy j=>?_⟩
  .rw[NE,xb _ (by rw[g]),g];exact r
  rw[B,o];constructor
  .rintro ⟨b,d,v⟩;exact⟨λi a=>by
    by_cases e:i=n
    .rw[e];exact b
    exact d i (by omega),v⟩
  .rintro ⟨b,d⟩;exact⟨b n (by omega),λi a=>b i (by omega),d⟩
theorem aKm{a b:nB}{c:List nB}(d:mT c)(h:∀f,f∈c ↔ f=a\/f=b)(p:Op.bytesLess b.N.toList a.N.toList=gA)(t:a.N≠b.N):c=[a,b]:=by
 have o:=(h a).2 (Ca rfl);have s:=(h b).2 (La rfl);match c with
 |[]=>cases o
 |[x]=>grind
 |x::y::r=>
  have q:=d 0 1 (by omega) (by simp);have e:=(h x).1 (by simp);have l:=(h y).1 (by simp);have g:x=a/\y=b:=by
   simp only[Eg,Ec]at q;rcases e with rfl|rfl<;>obtain rfl|rfl:=l
   .rw[iF]at q;cases q
   .exact ⟨rfl,rfl⟩
   .rw[p]at q;cases q
   rw[iF]at q;cases q
  obtain⟨rfl,rfl⟩:=g;cases r with
  |nil=>rfl
  |cons z r=>
   have i:=d 0 2 (by omega) (by simp only[Zb];omega);have j:=d 1 2 (by omega) (by simp only[Zb];omega);simp only[Eg,Ec]at i j;rcases(h z).1 (by simp) with rfl|rfl
   .rw[iF]at i;cases i
   rw[iF]at j;cases j
theorem aEn(h:FY K k m)(l:im K L q m)(b:q<80)(b:k<850){t:vB}(b:m+t.size<=1000000):∃G,bL K (rT K L t)=(G,0)/\FY G (k+5+q) t.size/\im G ⟨L.last+1,L.last+1,0⟩ (q+1) t.size/\G.fs=[⟨FZ,t,(t.size:Nat)⟩,⟨tF (L.last+1),pA,0⟩]:=by
 obtain⟨T,c,c⟩:=l.b;have E:¬qz K.fs vP:=λJ=>by
  rcases l.hi _ J with e|⟨i,_,_,e⟩;exact absurd e (by decide);exact (qU i).2 e.symm
 have A:¬qz K.fs (tF (L.last+1)):=λJ=>by
  rcases l.hi _ J with e|⟨i,c,n,e⟩;exact (qU _).1 e;have:=FJ (by omega) (by omega) e;omega
 have H:gG vP=iA:=by decide
 have o:gG FZ=iA:=by decide
 obtain⟨v,U,v,M⟩:=kl h (by omega) H E;obtain⟨z,V,z,N⟩:=aAn v (by omega) H ((M _ _).2 (by rw[Ma rfl])) b;obtain⟨b,W,b,O⟩:=aAq z (by omega) H ((N _ _).2 (by rw[Ma rfl]));obtain⟨S,X,v,R⟩:=aIr b (by omega) H o ((O _ _).2 (by rw[Ma rfl]));have a:∀y j,GA S.fs y j ↔ if y=FZ then j=(pA++t,((pA++t).size:Int)) else y≠vP/\GA K.fs y j:=λy j=>by
  rw[R,O,N,M];grind
 clear R O N M;obtain⟨b,Y,b,I⟩:=kl (x:=tF (L.last+1)) v (by omega) (oP _ (by omega) (by omega)) (fun⟨j,r⟩=>by
  rw[a,Ja (qU _).1]at r;exact A ⟨j,r.2⟩)
 have o:((L.last+1-L.first).toNat:Int)=L.last+1-L.first:=by omega
 obtain⟨B,Z,u,P⟩:=bc L.first T (L.last+1-L.first).toNat (by omega) b (by omega) λi Q=>by
  obtain⟨j,r⟩:=l.lo (L.first+i) (by omega) (by omega);refine⟨j,?_⟩;rw[I,Ja λe=>by have:=FJ (by omega) (by omega) e;omega,a,Ja (qU _).1];exact⟨(qU _).2,r⟩
 have g:∀y j,GA B.fs y j->y=FZ/\j=(t,(t.size:Int))\/y=tF (L.last+1)/\j=(pA,0):=λy j r=>by
  rw[P,I]at r;obtain⟨p,o⟩:=r;split at o;exact La ⟨‹_›,o⟩;rw[a]at o;split at o;exact Ca ⟨‹_›,by rw[o];simp⟩;rcases l.hi y ⟨j,o.2⟩ with e|⟨i,c,n,e⟩;exact absurd e ‹_›;exact absurd (by rw[e];congr 1;omega) (p (i-L.first).toNat (by omega))
 have A:nN K.fs=[]:=by
  unfold nN;rw[EA h.asc (bJ vP h.asc),aAs E];rfl
 have w:B.fs=[⟨FZ,t,(t.size:Nat)⟩,⟨tF (L.last+1),pA,0⟩]:=by
  have D:∀y j,GA B.fs y j->(⟨y,j.1,j.2⟩:nB) ∈B.fs:=λy j ⟨f,C,p,o⟩=>by subst p o;exact C
  refine aKm u.asc (λf=>⟨λC=>?_,λC=>?_⟩) (aDc (by omega) (by omega)) (λe=>(qU _).1 e.symm)
  .obtain ⟨x,d,s⟩:=f;rcases g _ _ ⟨_,C,rfl,rfl⟩ with⟨p,o⟩|⟨p,o⟩<;>(dsimp only at p o;obtain⟨rfl,rfl⟩:=Prod.mk.inj o;subst p)
   .exact Ca rfl
   exact La rfl
  obtain rfl|rfl:=C;refine D FZ (t,(t.size:Int)) ?_;rw[P,I,Ja (λe=>(qU _).1 e.symm),a,Ma rfl];exact⟨λi Q e=>(qU _).1 e.symm,by simp⟩;refine D (tF (L.last+1)) (pA,0) ?_;rw[P,I,Ma rfl];exact⟨λi Q e=>by have:=FJ (by omega) (by omega) e;omega,rfl⟩
 refine⟨B,?_,⟨u.v,u.c,u.cr,u.fl,u.dn,by have:=u.k;omega,by have:=u.l;omega,by rw[w];simp[tC]⟩,⟨by dsimp only;omega,by dsimp only;omega,λi p o=>?_,λx ⟨j,r⟩=>?_⟩,w⟩;unfold rT sY;rw[A,Mb];simp only[Sd,Mb,bL,U,V,W,X,Y,Td];exact Z
 .obtain rfl:i=L.last+1:=by dsimp only at p o;omega
  rw[w];exact⟨_,_,Sb _ (Uf.2 rfl),rfl,rfl⟩
 rcases g x j r with⟨e,_⟩|⟨e,_⟩;exact Ca e;exact La ⟨_,Xd _,Xd _,e⟩
end
structure io(c:kC)(k:Nat)(N:vC):Prop where
 I:rb c (28500*k) N
 up:N.up=iA
 deg:N.deg=gA
 n:N.lsn≤k
 w:N.now≤500*k
 G:FY N.d (30*k+1) (28500*k)
 L:im N.d N.l (k+1) (28500*k)
def FY.mono{K:eE}{k m a m':Nat}(h:FY K k m)(b:k<=a)(d:m<=m'):FY K a m':=⟨h.v,h.c,h.cr,h.fl,h.dn,by have:=h.k;omega,Ua h.l b,Ua h.m d⟩
def im.mono{K:eE}{L:aI}{q m a m':Nat}(h:im K L q m)(d:q<=a)(e:m<=m'):im K L a m':=⟨by have:=h.b;omega,by have:=h.z;omega,h.lo,h.hi⟩
def VN(c:kC):Prop:=mH c=iA/\dC c.sg 1 1000000000=iA
def SmR(r:fH):Prop:=(1<=r.K/\r.K<=6)/\cB r.P<=5/\(kE r.P).size<=27755/\r.T.size<=16/\r.R.size<=16/\r.U<=100
def oh(rs:List tE):Prop:=1<=cB rs/\cB rs<=5/\27*cB rs+iD rs<=28400/\∀r∈rs,r.T.size<=16/\((r.K=1/\r.U=0)\/(r.K=2/\r.T.size=0/\r.X.size=0/\r.U<=100)\/r.K=3)
def aMz{c:kC}{now:Int}{te:vB}(b:List wF):∀{S:List kB×vB×List tE},(∀r∈S.2.2,r.T=te)->∀r∈(b.foldl (wrS c now te) S).2.2,r.T=te:=by
 induction b with
 |nil=>intro _ h;exact h
 |cons x b d=>
  intro S h;rw[Og];refine d λr a=>?_;rcases Ee.1 a with a|a
  .exact h r a
  unfold yb at a;split at a
  .cases a
  rw[Uf.1 a]
def aGo{c:kC}(rs:List tE):∀{now:Int}{ts:List kB},(∀r∈rs,r.K=2->r.U<=100)->(aG c now ts rs).1<=now+100*cB rs:=by
 induction rs with
 |nil=>intro now _ _;simp[aG]
 |cons r rs b=>
  intro now ts h;have d:(pE c now ts r).1<=now+100:=by
   have:=h r (Kc ..);unfold pE uJ;repeat' split
   all_goals(dsimp only;omega)
  have e:=@b (pE c now ts r).1 (pE c now ts r).2.1 λx a=>h x (Sb _ a);rw[aG,Zb];split<;>(try dsimp only)<;>omega
section
variable {c:kC} {k:Nat} {N:vC} {rs:List tE} {r:fH}
theorem io.up1(h:io c k N):io c (k+1) N:=⟨h.I.mono (by omega),h.up,h.deg,by have:=h.n;omega,by have:=h.w;omega,h.G.mono (by omega) (by omega),h.L.mono (by omega) (by omega)⟩
theorem io.b(h:io c k N):ZQ N=iA:=by simp[ZQ,h.up,h.deg]
theorem aJx(d:VN c):io c 0 nd1:=
 ⟨pt d.1,rfl,rfl,Xd _,Xd _,⟨by kernel_rfl,rfl,rfl,rfl,rfl,Xd _,Ia _,Ia _⟩,⟨⟨Xd _,Xd _,Xd _⟩,⟨Xd _,Xd _⟩,λi a b=>⟨(⟨#[]⟩,0),⟨tF 1,⟨#[]⟩,0⟩,Uf.2 rfl,by have a:1<=i:=a;have b:i<=1:=b;rw[show i=1 by omega],rfl⟩,λx ⟨_,f,e,a,_⟩=>La ⟨1,Xd _,Xd _,by rw[Uf.1 e]at a;exact a.symm⟩⟩⟩
theorem aCq{x:tE}:∀{rs:List tE},x∈rs->x.X.size<=iD rs
 |r::rs,h=>by
  rw[iD];rcases Lb.1 h with rfl|h;omega;have:=aCq h;omega
theorem za{l:Int}(j:0<=l)(m:l<=100)(h:oh rs):aN (l+1) rs≠pA/\1<=(aN (l+1) rs).size/\(aN (l+1) rs).size<=28410:=by
 obtain⟨f,o,p,g⟩:=h;have b:eY (l+1) rs:=⟨by omega,by omega,f,by omega,λi a=>by
  obtain⟨n,d⟩:=g _ (Gb a);have:=aCq (Gb a);exact⟨by omega,by omega,d.imp_right (Or.imp_left λq=>⟨q.1,q.2.1,q.2.2.1⟩)⟩⟩
 have e:(aN (l+1) rs).size=10+(12*cB rs+iD rs):=by rw[LM b,Ka,DO,BU]
 exact⟨λh=>by rw[h]at e;simp at e;omega,by omega,by omega⟩
theorem EU(i:VN c)(h:io c k N)(y:k<20)(a:oh rs):iw c N rs/\io c (k+1) (fG c N rs).1:=by
 have j:=aFt (k:=28500) (rs:=rs) i.1 h.I (by have:=a.2.1;omega) (by have:=a.2.2.1;omega) (by omega);have m:oF c N.now N.ts rs=if (aG c N.now N.ts rs).2.2=iA then aG c N.now N.ts rs else(N.now,N.ts,gA):=by
  unfold oF;rw[Ja (by rw[h.I.st];decide),Ja (by have:=a.2.1;omega)]
 have s:=h.I.lsn;have A:=h.n;obtain⟨o,p,u⟩:=za s.1 (by omega) a;obtain⟨K,L,e,g,l⟩:=yw h.G h.L (by omega) (by omega) ⟨p,by omega⟩ (by omega) i.2;have b:dC N.lsn 0 999999999999999=iA:=by simp[dC];omega
 have z:=aGo (c:=c) rs (now:=N.now) (ts:=N.ts) λx t v=>by rcases(a.2.2.2 x t).2 with q|q|q<;>omega
 have d:fG c N rs=if (aG c N.now N.ts rs).2.2=iA then(⟨K,L,(aG c N.now N.ts rs).1,(aG c N.now N.ts rs).2.1,N.lsn+1,gA,iA⟩,0) else(N,62):=by
  unfold fG;rw[Ja (by rw[i.1];decide),Ja (by rw[h.b];decide),m,b,e];split
  .rename_i f;rw[Ja (by simp[f,o])];rfl
  rw[Ma (Ca rfl)]
 unfold iw;rw[m];cases f:(aG c N.now N.ts rs).2.2 with
 |false=>
  rw[f]at d;exact⟨λq=>(by cases q),by rw[d];exact h.up1⟩
 |true=>
  rw[f,Ma rfl]at d;rw[d]at j |-
  have:=a.2.1;have:=h.w;exact⟨λ_=>rfl,j.mono (by omega),rfl,rfl,by dsimp only;omega,by dsimp only;omega,g.mono (by omega) (by omega),l.mono (by omega) (by omega)⟩
theorem aHo(d:VN c)(h:io c k N)(p:k<18):∃K,IV c N=(⟨K,⟨N.l.last+1,N.l.last+1,0⟩,N.now,N.ts,N.lsn,N.deg,N.up⟩,0)/\K.fs=[⟨FZ,bH N.lsn N.now N.ts,((bH N.lsn N.now N.ts).size:Int)⟩,⟨tF (N.l.last+1),pA,0⟩]/\io c (k+1) (IV c N).1:=by
 have a:=aIj d.1 h.I (by omega);have f:=h.I.lsn;have b:=h.I.w;obtain⟨_,s,m,_⟩:=oZ (lsn:=N.lsn) h.I.st (by omega) f.1 f.2;obtain⟨K,e,g,l,j⟩:=aEn (t:=bH N.lsn N.now N.ts) h.G h.L (by omega) (by omega) (by omega);have o:=h.L.b;have i:IV c N=(⟨K,⟨N.l.last+1,N.l.last+1,0⟩,N.now,N.ts,N.lsn,N.deg,N.up⟩,0):=by
  unfold IV;rw[Ja (by rw[d.1];decide),Ja (by rw[h.b];decide),Ja (by rw[h.L.ok (by omega) (by omega)];decide),Ja (by omega),Ja (λq=>m (by rw[q];rfl)),e];rfl
 rw[i]at a |-
 have:=h.n;have:=h.w;exact⟨K,rfl,j,a.mono (by omega),h.up,h.deg,by dsimp only;omega,by dsimp only;omega,g.mono (by omega) (by omega),l.mono (by omega) (by omega)⟩
theorem aDf(i:pC c N.now N.ts=iA)(g:SmR r)(a:(wK c N.now r.T N.ts r.P).2.2≠[]):oh (wK c N.now r.T N.ts r.P).2.2:=by
 obtain⟨_,f,n,b,_⟩:=g;obtain⟨_,_,_,l,m,e⟩:=aDs i r.T r.P (cB r.P) (Ia _);rw[Rb]at l m e;have j:=aMz (c:=c) (now:=N.now) (te:=r.T) r.P (S:=(N.ts,pA,[])) (λ_ h=>by cases h);have:=Hf f b;have:=Tg.2 a;exact⟨by omega,by omega,by omega,λx d=>⟨by rw[j x d];exact b,Ca (e x d)⟩⟩
theorem qa{x:tE}(h:x=⟨2,pA,pA,r.U⟩\/x=⟨3,r.T,r.R,r.U⟩)(d:SmR r):oh [x]:=by
 obtain⟨_,_,_,a,g,b⟩:=d;have f:ByteArray.empty.size=0:=rfl;refine⟨Ia _,by simp,?_,λy e=>?_⟩
 .rcases h with rfl|rfl<;>(simp only[List.length_singleton,iD];omega)
 rw[Uf.1 e];obtain rfl|rfl:=h;exact ⟨by dsimp only;omega,La (Ca ⟨rfl,rfl,rfl,b⟩)⟩;exact ⟨a,La (La rfl)⟩
theorem YK(a:VN c)(h:io c k N)(j:k<17)(b:SmR r):yi c N r/\io c (k+1) (CC c N r).1:=by
 have f:=EU a h (by omega) (qa (Ca rfl) b);have g:=EU a h (by omega) (qa (La rfl) b);have d:=λq=>EU a h (by omega) (aDf h.I.st b q);obtain⟨K,e,_,i⟩:=aHo a h (by omega);refine⟨⟨a.1,h.up,h.deg,by rw[e],f.1,g.1,λq=>(d q).1⟩,?_⟩;unfold CC lJ;rw[Ja (by rw[h.up];decide),Ja (by rw[h.deg];simp)];repeat' split
 all_goals first|exact h.up1|exact(d ‹_›).2|exact f.2|exact g.2|exact i
end
def rq(a:List QV)(k:Nat):fH:=match a[k]? with
 |some q=>q.req
 |none=>⟨0,pA,pA,0,[]⟩
def YN{a:List QV}{k:Nat}(h:k<cB a):rq a k=a[k].req:=by unfold rq;rw[Va h]
def nA(c:kC)(f:Nat->fH):Nat->vC
 |0=>nd1
 |k+1=>(CC c (nA c f k) (f k)).1
def aCu{c:kC}{f:Nat->fH}{n:Nat}(a:VN c)(b:∀i,i<n->SmR (f i))(g:n<=17)(k:Nat)(d:k<=n):io c k (nA c f k):=by
 induction k with
 |zero=>exact aJx a
 |succ k e=>exact(YK a (e (by omega)) (by omega) (b k d)).2
section
open Go.Maps
def GQ(tx:vB)(n:Int):List nB:=[⟨FZ,tx,(tx.size:Int)⟩,⟨tF n,pA,0⟩]
def VS(w : World) : Prop := ∃ t p, w.var? prog "strconv.ErrSyntax" = some #[.iface t p]
def VS.z{w c:jA}(h:VS w)(d:zB w c):VS c:=by
 obtain⟨t,p,h⟩:=h;refine⟨t,p,?_⟩;unfold jA.var? at h |-
 cases hg : prog.globalNamed "strconv.ErrSyntax" with
 |none=>rw[hg]at h;cases h
 |some g=>
  rw[hg]at h;simp only[Option.bind_some]at h |-
  have b:g<w.1.size:=by
   rcases Gc g w.1.size with a|a;exact a;rw[Mc a]at h;cases h
  rw[d.block g b];exact h
def xe(w:jA)(f:VS w):lA prog 217 #[tA FZ] w λe g=>∃n,e=zA (bB #[dB n,.bool gA])/\zB w g:=by
 obtain⟨t,p,b⟩:=f;have a:=gB (strconv_Atoi_syntax_var (⟨(Lib.trimPrefix FZ.data.toList [119,97,108,45]).toArray⟩:vB) (by decide) (by decide) t p w b);clear b;go_enter func217,ntmps217;go_wp2_with fail;apply oC (strings_TrimPrefix FZ ⟨#[119,97,108,45]⟩ w);rintro h rfl;go_wp2_with fail;refine a.o.mono ?_;rintro e i ⟨N,rfl,_,_,c⟩;have d:=gB c;clear c a;go_wp2;go_ret2;exact⟨_,rfl,d.o⟩
def yy:(List.range 91).all (λn=>match Lib.atoiAll (Lib.trimPrefix (PN n).data.toList [119,97,108,45]) with|.ok v=>v==(n:Int)|_=>gA)=iA:=by kernel_rfl
def ne{n:Int}(m:1<=n)(p:n<=90)(w:jA)(k:kI w):gF 217 #[tA (tF n)] w (bB #[dB n,.bool iA]):=by
 have d:Lib.atoiAll (Lib.trimPrefix (tF n).data.toList [119,97,108,45])=.ok n:=by
  have:=Ke.1 yy n.toNat (Xg.2 (by omega));rw[LW n m (by omega)];split at this
  .rename_i v d;rw[d,eq_of_beq this];congr 1;omega
  cases this
 have j:fB (gF 256 #[tA (⟨(Lib.trimPrefix (tF n).data.toList [119,97,108,45]).toArray⟩:vB)] w (bB #[dB n,.nilIface])):=(strconv_Atoi_ok _ (by have:=pK n;have:cB (Lib.trimPrefix (tF n).data.toList [119,97,108,45])<=cB (tF n).data.toList:=(by unfold Lib.trimPrefix;split<;>simp);have e:cB (tF n).data.toList=(tF n).size:=rfl;show(Lib.trimPrefix (tF n).data.toList [119,97,108,45]).toArray.size<=_;rw[List.size_toArray];omega) n (by simpa using d) w).mono (by
  rintro e f ⟨rfl,rfl|⟨t,rfl⟩⟩;exact ⟨rfl,jD⟩;exact ⟨rfl,Joins.below_bytesWorld _ _ _ _ (Ia _)⟩)
 have l:=gB k;clear d k;have q:((tF n).toList==(tF n).toList)=iA:=by simp
 generalize i:tF n=s at *;replace i:=gB i;go_enter func217,ntmps217;go_wp2_with fail;apply oC (strings_TrimPrefix s ⟨#[119,97,108,45]⟩ w);rintro r rfl;go_wp2_with fail;apply oC j.o;intro o b;have g:=gB b;have a:=lL n o (l.o.z b);rw[i.o]at a;replace a:=gB a;clear b j;go_wp2_with fail;apply oC a.o;intro u c;have h:=gB (xB g.o c);clear c a;go_wp2;go_ret2;exact⟨rfl,h.o⟩
def aAv:(prog.info? 3).map (λi=>(i.zero,i.size,i.bytes))=fA (fA (dB 0),1,8):=by kernel_rfl
def aKf{P D:Nat}{a:nC}{z:Nat}{tx:vB}{n:Int}{w:jA}(V:w.cell? (iB P 0)=fA (.pointer (cC D)))(U:w.cell? (iB D 4)=fA (uA a 2 z))(E:wB w a (GQ tx n))(S:1<=n)(T:n<=90)(h:kI w)(G:VS w):
 lA prog 149 #[.pointer (cC P)] w λe H=>∃g t,e=zA (uA (cC g) 1 t)/\H.cell? (iB g 0)=fA (dB n)/\zB w H:=by
 obtain⟨b,o,rfl,s,j,l,m⟩:=E.at (i:=0) (by simp[GQ])
 obtain⟨Q,I,F,-,p,q,r⟩:=E.at (i:=1) (by simp[GQ])
 obtain⟨rfl,rfl⟩:b=Q/\o=I:=by simpa using F
 simp only[GQ,Eg,Ec,Nat.zero_mul,Bg,Nat.one_mul]at j l m p q r;have I:=gB (λW(f:zB w W)=>xe W (G.z f));have J:=gB (λW(f:zB w W)=>ne S T W (h.z f));have M:=gB (λW(f:zB w W)=>show(gD W b o (tA FZ)/\gD W b (o+1) (tA tx)/\gD W b (o+2) (dB (tx.size:Int)))/\gD W b (o+3) (tA (tF n))/\gD W b (o+3+1) (tA pA)/\gD W b (o+3+2) (dB 0) from⟨⟨(f.cell s).trans j,(f.cell s).trans l,(f.cell s).trans m⟩,(f.cell s).trans p,(f.cell s).trans q,(f.cell s).trans r⟩);clear E h G F j l m p q r;generalize FZ=h at *;generalize tF n=h at *;go_enter func149,ntmps149;go_wp2;go_loopw [3,16] (λy i wr=>∃k:Nat,k<=2/\i=dB k/\fB (zB w wr)/\(k<=1/\y=uA eA 0 0\/k=2/\∃g A,y=uA (cC g) 1 A/\gD wr g 0 (dB n))) (λ_ i _=>2-(intOf i).toNat)
 case atStart=>exact⟨0,by omega,rfl,jD,Ca ⟨by omega,rfl⟩⟩
 case round=>
  obtain⟨k,h,rfl,c,X⟩:=hrel;obtain⟨⟨j,l,m⟩,p,q,r⟩:=M.o _ c.o;clear V U;obtain⟨Z,rfl⟩|⟨rfl,g,A,rfl,Y⟩:=X
  .obtain rfl|rfl:k=0\/k=1:=by omega
   .go_wp2_with fail;refine(I.o _ (xB c.o aC)).mono ?_;rintro e w1 ⟨x,rfl,d⟩;replace c:=gB (xB (xB c.o aC) d);clear d j l m p q r;go_wp2;exact⟨⟨1,by omega,rfl,c,Ca ⟨by omega,rfl⟩⟩,by simp[intOf]⟩
   go_wp2_with fail;apply oC (J.o _ (xB c.o aC));intro w1 d;replace c:=gB (xB (xB c.o aC) d);clear d j l m p q r;go_wp2_with(at_builtin;refine gI rfl _ _ rfl underlying26 aAv rfl (by omega) (by omega) (B:=w.1.size) (v:=uA eA 0 0) rfl (jA.ownsRow_nil _ _ _ _) rfl rfl (cs:=#[dB n]) rfl (by simp[Value.oneCell']) (by omega) c.o.size ?_;intro R u h N O h);have C:=N.o.cells rfl 0 (dB n) (by simp);exact⟨⟨2,by omega,rfl,gB (c.o.trans (O.o.below c.o.size λi h e=>by simp[Value.ownBlock]at e)),La ⟨rfl,R,u,rfl,by simpa[Addr.add]using C⟩⟩,by simp[intOf]⟩
  go_wp2;go_ret;exact⟨g,A,rfl,Y,c.o⟩
section
variable {w0 w W:jA} {B P D:Nat} {K:eE} {tx:vB} {n:Int} {L:aI}
theorem VA(h:xO w0 w B P D K L)(F:K.fs=GQ tx n):
 lA prog 218 #[.pointer (cC P),dB n] w λe y=>∃g o,e=zA (xA (fA (iB g o)))/\y.cell? (iB g (o+1))=fA (tA pA)/\y.cell? (iB g (o+2))=fA (dB 0)/\zB w y:=by
 obtain⟨c,d,_⟩:=nH h.valid;obtain⟨v,t⟩:=h.drive;obtain⟨a,i,rfl,s⟩:=t.files;have l:GA K.fs (tF n) (pA,0):=⟨⟨tF n,pA,0⟩,by rw[F];exact Sb _ (Uf.2 rfl),rfl,rfl⟩
 obtain⟨M,I,z,A⟩:=JI (kS c) l;obtain⟨b,o,rfl,j,J,q,r⟩:=s.at M;obtain⟨C,E⟩:=Prod.mk.inj z;rw[C]at q;rw[E]at r;have p:=gB (λW(f:zB w W)=>lL n W (h.tab.z f));have k:=gB (λW(f:zB w W)=>uN (fA (iB b o)) i K.fs (tF n) W (s.z f) (kS c) (by omega));rw[A]at k;have m:=gB (λW(f:zB w W)=>show(gD W P 0 (.pointer (cC D))/\gD W D 4 (uA (fA (iB b o)) (cB K.fs) i))/\gD W b (o+gC (tF n) K.fs*3+1) (tA pA)/\gD W b (o+gC (tF n) K.fs*3+2) (dB 0) from⟨⟨((h.z f).wr.cells).1,(t.z f).cell4⟩,(f.cell j).trans q,(f.cell j).trans r⟩);clear h F l s t I z A C E J q r c d;generalize tF n=Q at *;generalize gC Q K.fs=O at *;generalize cB K.fs=N at *;go_enter func218,ntmps218;go_wp2_with fail;go_region_held3 (λW=>W.cell? (iB P 0)=fA (.pointer (cC D))/\W.cell? (iB D 4)=fA (uA (fA (iB b o)) N i))
  (first|exact(m.o _ x).1|exact(m.o _ u).1|exact(m.o _ jD.drew).1)
  (first
  |(go_at_call 110;apply oC (p.o _ jD.drew);intro R j;have u:zB w R:=xB jD.drew j)
  |(go_at_call 147;apply oC (k.o _ u);intro S j;have x:zB w S:=xB u j))
 all_goals
  obtain⟨⟨T,U⟩,G,H⟩:=m.o _ x;have Z:=gB (Vc G H);clear G H;go_wp2;go_ret;exact⟨b,o+O*3,rfl,Z.o.1,Z.o.2,x⟩
theorem wk(h:xO w0 w B P D K ⟨n,n,0⟩)(m:K.fs=GQ tx n)(v:1<=n)(x:n<=90):
 lA prog 150 #[.pointer (cC P)] w λe p=>e=zA (bB #[uA eA 0 0,.nilIface])/\xO w0 p B P D K ⟨n,n,0⟩/\jB (·=P) w p:=by
 have H:=gB h;have q:=gB (λW(t:xO w0 W B P D K ⟨n,n,0⟩)=>VA t m);obtain⟨d,f,j,k⟩:=h.wr.cells;clear h m;go_enter func150,ntmps150;go_wp2;go_loopw [4,5] (λl i wr=>l=uA eA 0 0/\(i=dB n/\wr=w\/i=dB (n+1))/\fB (xO w0 wr B P D K ⟨n,n,0⟩)/\fB (jB (·=P) w wr)) (λ_ i _=>(n+1-intOf i).toNat)
 case atStart=>exact⟨rfl,Ca ⟨rfl,rfl⟩,H,jB.refl _ _⟩
 case round=>
  clear d f j k;obtain⟨rfl,u,a,c⟩:=hrel;obtain⟨d,f,j,k⟩:=a.o.wr.cells;obtain⟨rfl,rfl⟩|rfl:=u
  .go_wp2_with fail;refine(q.o _ a.o).mono ?_;rintro e y ⟨g,o,rfl,r,s,b⟩;replace a:=gB (a.o.z b);replace c:=gB (c.o.trans' (jB.of b));clear b d f j k;obtain⟨d,f,j,k⟩:=a.o.wr.cells;go_wp2_with fail;apply oC (kt _);intro z b;replace a:=gB (a.o.z b);replace c:=gB (c.o.trans' (jB.of b));clear b d f j k r s;obtain⟨d,f,j,k⟩:=a.o.wr.cells;have A:=rB.free a.o.wr 3;go_wp2;exact⟨⟨rfl,La rfl,a.o.set (L':=⟨n,n,0⟩) 3 _ (by simp),c.o.setCell (Ca rfl) 3 _⟩,by simp[intOf];omega⟩
  go_wp2;go_ret2;exact⟨rfl,a.o,c.o⟩
theorem aJk(h:xO w0 w B P D K ⟨n,n,0⟩)(b:K.fs=GQ tx n):
 gF 151 #[.pointer (cC P)] w .nilIface:=by
 have H:=gB h;have j:=gB (VA h b);obtain⟨c,d,f,i⟩:=h.wr.cells;clear h b;go_enter func151,ntmps151;go_wp2_with fail;refine j.o.mono ?_;rintro e p ⟨g,o,rfl,l,m,a⟩;replace H:=gB (Vc (H.o.z a) a);clear a c d f i;obtain⟨c,d,f,i⟩:=H.o.1.wr.cells;go_wp2_with fail;go_region
 go_wp2_with fail;go_region
 go_wp2;go_ret;exact⟨rfl,H.o.2.drew.drew⟩
theorem aHg(h:xO w0 w B P D K ⟨0,0,0⟩)(o:K.fs=GQ tx n)(C:K.dn=gA)(z:1<=n)(A:n<=90)(E:VS w):
 lA prog 82 #[.pointer (cC P)] w λe F=>e=zA (bB #[uA eA 0 0,.nilIface])/\xO w0 F B P D K ⟨n,n,0⟩/\jB (·=P) w F:=by
 obtain⟨v,q⟩:=h.drive;obtain⟨a,s,rfl,u⟩:=q.files;rw[o]at u;obtain⟨i,k,l,m⟩:=h.wr.cells;have M:gD w D 3 (.bool gA):=by rw[<-C];exact q.blk.cell 3
 have j:=gB (aKf i (show gD w D 4 (uA a 2 s) by have:=q.cell4;rw[o]at this;exact this) u z A h.tab E);have J:=gB (λW(t:xO w0 W B P D K ⟨n,n,0⟩)=>wk t o z A);have I:=gB (λW(t:xO w0 W B P D K ⟨n,n,0⟩)=>aJk t o);have f:=gB h;clear h q u o C E;go_enter func82,ntmps82;go_wp2_with fail;refine j.o.mono ?_;rintro e G ⟨g,Q,rfl,R,d⟩;replace f:=gB (f.o.z d);have x:=gB (jB.of (S:=(·=P)) d);clear d i k l m M j;obtain⟨i,k,l,m⟩:=f.o.wr.cells;have N:=rB.free f.o.wr;have c:=gB (((f.o.set (L':=⟨n,0,0⟩) 1 (dB n) (by simp)).set (L':=⟨n,n,0⟩) 2 (dB n) (by simp)).set (L':=⟨n,n,0⟩) 3 (dB 0) (by simp));have y:=gB (x.o.trans' ((((jB.refl (·=P) G).setCell (Ca rfl) 1 (dB n)).setCell (Ca rfl) 2 (dB n)).setCell (Ca rfl) 3 (dB 0)));clear f x;go_wp2_with fail;go_region
 go_wp2_with fail;clear i k l m N;generalize ((G.setCell (iB P 1) (dB n)).setCell (iB P 2) (dB n)).setCell (iB P 3) (dB 0)=O at *;obtain⟨i,k,l,m⟩:=c.o.wr.cells;go_region
 go_wp2_with fail;replace c:=gB ((c.o.z jD.drew).z jD.drew);apply oC (J.o _ c.o);rintro T ⟨p,b⟩;have r:=gB (Vc p (y.o.drew.drew.trans' b));clear p b c y i k l m;go_wp2_with fail;apply oC (I.o _ r.o.1);intro U d;have H:=gB (Vc (r.o.1.z d) (r.o.2.trans' (jB.of d)));clear d;go_wp2;go_ret2;exact⟨rfl,H.o⟩
end
end
