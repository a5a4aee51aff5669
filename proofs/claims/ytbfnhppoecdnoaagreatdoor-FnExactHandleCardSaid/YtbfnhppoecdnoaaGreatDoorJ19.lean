import Derived.Test.YtbfnhppoecdnoaaGreatDoorJ17
import Derived.Test.YtbfnhppoecdnoaaGreatDoorJ04
set_option maxRecDepth 100000
set_option maxHeartbeats 2000000
set_option linter.defProp false
open Bool renaming false->cA,true->dA
open Option renaming some->bA,none->aA
open ByteArray renaming empty->kA
open List renaming length->vA
namespace Go.Proofs.YtbfnhppoecdnoaaGreatDoor
open Go renaming World->eA,Calls->gA,Value->iA,TypeId->jA
open Value renaming agg->rA,string->nA,int->lA,slice->oA,tuple->uA,bool->pA,pointer->qA
open Ending renaming returned->sA
open IntKind renaming i64->mA
open Obj renaming cells->tA
open Go.RowKit Tryz
section
open Go.Sort
def cfL(x y:eC):Int:=tZ x.N y.N
def ltL(x y:eC):ltOf cfL x y=dQ x y:=by
 unfold ltOf cfL tZ dQ;split
 .rename_i h;rw[h];rfl
 rename_i h;have a:Op.bytesLess x.N.toList y.N.toList=cA:=by simpa using h
 rw[a];split<;>rfl
def aVe:SWO (ltOf cfL) where
 irrefl x:=by rw[ltL];exact iH _
 trans x y z h1 h2:=by rw[ltL]at *;exact gJ _ _ _ h1 h2
 ntrans x y z h1 h2:=by rw[ltL]at *;exact TW (x:=z) (y:=y) (z:=x) h2 h1
def zw(x y:eC)(W:eA):gA prog 209 #[rA #[nA x.N,nA x.V],rA #[nA y.N,nA y.V]] W fun e c=>e=sA (lA mA (cfL x y))/\∃q b,c=grow (W.drewN q) b:=by
 have a:=fun d=>MG x.N y.N d;unfold cfL;generalize tZ x.N y.N=r at a |-
 go_enter func209,ntmps209;go_wp2_with(go_at_call 210;apply aC (a _);rintro c rfl);go_ret;exact⟨rfl,0,_,by rw[alloc_eq_grow,alloc_eq_grow,grow_grow];rfl⟩
section
variable [Inhabited eC]
theorem lp(blk a size:Nat)(w:eA):CmpLays prog 209 #[] rV 2 cfL blk a size w:=
 fun _ _ _ _ x y=>zw x y _
theorem zz{w:eA}{g n:Nat}{a:Array iA}{t:jA}(h:iB w g a t)(d:Array eC)(e:Array Obj):∃b,iB (sortWorldK rV 2 w g 0 n d e) g b t:=by
 have c:=zA h;refine⟨putCells id 0 (Go.Sort.flatK rV 2 d) a,?_⟩;unfold iB sortWorldK putRowK putRow mapBlock;rw[heap_grow_old _ _ (by simpa[ahead]using c)];show(Array.modify w.heap g _)[g]?=_;rw[Array.getElem?_modify,Ma rfl];unfold iB at h;rw[h];rfl
theorem zy{w:eA}{g n B:Nat}(b:B<=g)(c:g<w.1.size)(d:Array eC)(a:Array Obj):Below B w (sortWorldK rV 2 w g 0 n d a):=by
 refine⟨rfl,rfl,rfl,?_,fun k e=>?_⟩;simp[sortWorldK,putRowK,putRow,mapBlock];unfold sortWorldK putRowK putRow mapBlock;rw[heap_grow_old _ _ (by simp;omega)];show(Array.modify w.heap g _)[k]?=_;rw[Array.getElem?_modify,Ja (by omega)]
theorem nn{w:eA}{g:Nat}{c:Array iA}{t:jA}{b:List eC}(h:iB w g c t)(k:rR w g 0 b):HoldsK rV 2 w g 0 b.toArray:=by
 intro j d;rw[size_flatK]at d;have a:j / 2<vA b:=by simp at d;omega
 refine⟨?_,h.free _⟩;rw[get_flatK _ _ _ _ d];have e:b.toArray[j / 2]! = b[j / 2]:=by simp[getElem!_pos,a]
 rw[e];have i:=k (j / 2) a;rcases Nat.mod_two_eq_zero_or_one j with f|f;rw[f];have:=i.1;rw[show 0+j / 2*2=0+j by omega]at this;rw[this];rfl;rw[f];have:=i.2;rw[show 0+j / 2*2+1=0+j by omega]at this;rw[this];rfl
theorem aOr{w:eA}{g B:Nat}{b:Array iA}{t:jA}{d:Array eC}(h:iB w g b t)(l:B<=g)(k:HoldsK rV 2 w g 0 d):uE w B (bA ⟨g,0,aA⟩) d.toList:=by
 refine La ⟨g,0,b,t,rfl,l,h,fun i m=>?_⟩;have a:i<d.size:=by simpa using m
 have f:=(k.cell (c:=0) a (by omega)).1;have j:=(k.cell (c:=1) a (by omega)).1;have e:d[i]! = d[i]:=getElem!_pos d i a;rw[e]at f j;rw[Mg];exact⟨f,j⟩
theorem se{d:Array eC}(h:SortedIn (ltOf cfL) 0 d.size d):d.toList.Pairwise Le:=by
 rw[Qe];intro i j e c b;have a:j<d.size:=by simpa using c
 have:=h i j (Oa _) b a;rw[ltL,getElem!_pos d i (by omega),getElem!_pos d j a]at this;rw[Mg,Mg];exact this
theorem ia(g h:Nat)(a:List eC)(w:eA)(B:Nat)(s:B<=g){l:Array iA}{t:jA}(k:iB w g l t)(u:rR w g 0 a)(y:vA a<=2000000):
 gA prog 208 #[oA (bA ⟨g,0,aA⟩) (vA a) h,.func (.func 209) #[] #[]] w fun e q=>
  e=sA (uA #[])/\∃f,f.Perm a/\f.Pairwise Le/\uE q B (bA ⟨g,0,aA⟩) f/\Below B w q:=by
 have D:∀args w,(callFunc 209 args).run prog w=.ok (.enter 209 args) w:=enters_of func209 (by kernel_rfl) rfl;have o:=zA k;have c:=AnyQ.slices_SortFunc sortL 2 isAgg116 sizeOf116 rV (fun _=>rfl) (fun x v z=>by simp[rV]at z;rcases z with rfl|rfl<;>rfl) cfL aVe 209 #[] g 0 h a.toArray w D (lp g 0 _ w) (nn k u) o (by simp;omega);change gA prog 208 _ _ _ at c;apply aC c;rintro q ⟨b,n,p,F,G,rfl⟩;obtain⟨d,_,i⟩:=F;obtain⟨r,m⟩:=zz (n:=n) k b p;have E:HoldsK rV 2 (sortWorldK rV 2 w g 0 n b p) g 0 b:=
  holdsK_grow rV 2 _ _ _ _ _ (by simpa[putRowK,putRow,mapBlock,ahead]using o) (holdsK_putRowK rV 2 _ _ _ a.toArray b (holdsK_ahead rV 2 _ _ _ _ _ (nn k u)) d)
 have j:b.size=vA a:=by simpa using d
 refine⟨rfl,b.toList,?_,se (by rw[j];simpa using G),aOr m s E,zy s o b p⟩;have A:b.extract 0 a.toArray.size=b:=by rw[<-d];simp
 have C:a.toArray.extract 0 a.toArray.size=a.toArray:=by simp
 rw[A,C]at i;exact i
end
end
def JZ.from{w d c:eA}{B n:Nat}{a:iC}(b:kB w d)(h:JZ d c B a n):JZ w c B a n:=by
 rcases h with⟨f,h⟩|⟨j,g,o,e,i,h⟩;exact Ca ⟨f,oB b h⟩;exact La ⟨j,g,o,e,i,(tD.of b).trans h⟩
def IT(a:iC)(d:Nat)(b:List cB)(c s o q:Int)(p:Bool)(k B:Nat)(w:eA)(r:0<k)(f:k+3*vA b<=100000000)(h:pG w B a b):
 gA prog 41 #[rA #[oA a (vA b) d,lA mA c,lA mA s,lA mA o,lA mA q,pA p],lA mA (k:Int)] w fun e l=>
  e=sA (lA mA ((k+3*vA b:Nat):Int))/\JZ w l B a (vA b)/\pG l B a (zR k (vA b)):=by
 have n:xA (pG w B a b):=h;clear h;go_enter func41,ntmps41;go_wp2_with fail;apply aC (WO a d b k B _ r f (n.o.z vB));rintro m ⟨i,j⟩;have g:xA (JZ w m B a (vA b)/\pG m B a (zR k (vA b))):=⟨i.from vB,j⟩
 clear i j;go_wp2;go_ret;exact⟨rfl,g.o.1,g.o.2⟩
def WE(a:iC)(q:Nat)(k n:Nat)(w:eA)(J:0<k)(D:k+3*n<=100000000)(u:eB w a (zR k n)):
 qD 95 #[oA a n q,lA mA (k:Int)] w (lA mA ((k+3*n:Nat):Int)):=by
 have v:xA (eB w a (zR k n)):=u;clear u;go_enter func95,ntmps95;go_wp2;go_loopw [1,5] (fun l i wr=>∃j:Nat,j<=n/\i=lA mA j/\l=lA mA ((k+3*j:Nat):Int)/\kB w wr) (fun _ i _=>n-(intOf i).toNat)
 case atStart=>exact⟨0,Oa _,rfl,rfl,eD⟩
 case round=>
  obtain⟨j,I,rfl,rfl,c⟩:=hrel;by_cases r:j<n
  .obtain ⟨b,o,rfl,H,f,g,m⟩:=(v.o.z c).at (i:=j) (by rw[IU];exact r)
   rw[ZH]at f g m;simp only[qa]at f g m;have B:=tB.cells f;have s:=tB.there wr;have p:xA (cC wr b (o+j*3+1) (nA (mt (k+3*j+1)))/\cC wr b (o+j*3+2) (lA mA ((k+3*j+2:Nat):Int))):=⟨g,m⟩
   clear f g m;go_wp2_with fail;refine jB (by kernel_rfl) (by kernel_rfl) ?_;repeat (go_big_quiet_step (first|(go_at_call 149;exact xB (bJ _ (k+3*j) (by omega) _ (by omega) (by omega)))))
   refine wpQuiet_nil ?_;rintro _ ⟨x,rfl⟩;have C:=tB.cells (x.cell p.o.1);have t:∀y:tB x.w',y.w'.cell? ⟨b,o+j*3+2,aA⟩=bA (lA mA ((k:Int)+3*(j:Int)+2)):=fun y=>by rw[y.cell (x.cell p.o.2)];simp
   have d:=tB.there x.w';have z:xA _:=oB c x.h;clear B s p c;generalize x.w'=W at *;clear x;go_wp2_with fail;refine jB (by kernel_rfl) (by kernel_rfl) ?_;repeat (go_big_quiet_step (first|(go_at_call 149;exact xB (bJ _ (k+3*j+1) (by omega) _ (by omega) (by omega)))))
   refine wpQuiet_nil ?_;rintro _ ⟨y,rfl⟩;have G:=t y;have A:xA _:=oB z.o y.h;clear C t d;generalize y.w'=F at *;clear y;go_wp2;exact⟨⟨j+1,by omega,by go_num,by go_num,A.o⟩,by simp[intOf];omega⟩
  go_wp2;go_ret;have e:j=n:=by omega
  subst e;exact⟨fD (by omega),c⟩
def ee(a:iC)(b:Nat)(c p j m:Int)(l:Bool)(k n:Nat)(w:eA)(o:0<k)(d:k+3*n<=100000000)(g:eB w a (zR k n)):
 gA prog 43 #[rA #[oA a n b,lA mA c,lA mA p,lA mA j,lA mA m,pA l],lA mA (k:Int)] w fun e q=>
  e=sA (lA mA ((k+3*n:Nat):Int))/\kB w q:=by
 have i:xA (eB w a (zR k n)):=g;clear g;go_enter func43,ntmps43;go_wp2_with fail;apply aC (WE a b k n _ o d (i.o.z vB));intro r f;have h:xA _:=oB vB f;clear f;go_wp2;go_ret;exact⟨fD (by omega),h.o⟩
def iz(f:aB)(t u:iC)(z A:Nat)(left:Int)(w:eA)(J:0<=left)(K:left<=1048576)(D:GH f)(n:yB w t f.M)(o:yB w u f.Z):
 qD 98 #[rA #[nA f.N,lA mA f.L,oA t (vA f.M) z,oA u (vA f.Z) A],lA mA left] w (lA mA (jV left f)):=by
 obtain⟨C,g,c,h,d⟩:=D;unfold maxLen at C;by_cases L:left-f.N.size<0
 .have E:xA (jV left f = -1):=by show _=_;unfold jV iE;rw[Ja];omega
  clear n o g c h d;go_enter func98,ntmps98;go_wp2;go_ret;exact⟨fD E.o.symm,vB⟩
 have k:=yA (fun(W:eA)(v:kB w W)=>tv (p:=154) (.inl rfl) t z f.M (left-f.N.size) W (by omega) (by omega) (n.z v) g c);by_cases m:(vA f.M+pC f.M:Int)<=left-f.N.size
 .have j:jK (left-f.N.size) f.M=left-f.N.size-vA f.M-pC f.M:=by unfold jK;rw[Ma m]
  rw[j]at k;have F:¬(left-f.N.size-vA f.M-pC f.M<0):=by omega
  have q:=yA (fun(W:eA)(v:kB w W)=>tv (p:=155) (.inr rfl) u A f.Z (left-f.N.size-vA f.M-pC f.M) W (by omega) (by omega) (o.z v) h d);by_cases r:(vA f.Z+pC f.Z:Int)<=left-f.N.size-vA f.M-pC f.M
  .have l:jK (left-f.N.size-vA f.M-pC f.M) f.Z=left-f.N.size-vA f.M-pC f.M-vA f.Z-pC f.Z:=by unfold jK;rw[Ma r]
   rw[l]at q;have G:¬(left-f.N.size-vA f.M-pC f.M-vA f.Z-pC f.Z<0):=by omega
   have E:xA (jV left f=left-f.N.size-vA f.M-pC f.M-vA f.Z-pC f.Z):=by show _=_;unfold jV iE;rw[Ma]<;>omega
   clear n o g c h d j l m r;go_enter func98,ntmps98;go_wp2_with fail;apply aC (k.o _ vB);intro B a;have i:xA _:=oB vB a;obtain⟨x,y⟩:=aBe a;clear a;go_wp2_with fail;apply aC (q.o _ i.o);intro I b;have s:xA _:=oB i.o b;clear b x y;go_wp2;go_ret;exact⟨fD E.o.symm,s.o⟩
  have l:jK (left-f.N.size-vA f.M-pC f.M) f.Z = -1:=by unfold jK;rw[Ja r]
  rw[l]at q;have E:xA (jV left f = -1):=by show _=_;unfold jV iE;rw[Ja];omega
  clear n o g c h d j l m r;go_enter func98,ntmps98;go_wp2_with fail;apply aC (k.o _ vB);intro B a;have i:xA _:=oB vB a;obtain⟨x,y⟩:=aBe a;clear a;go_wp2_with fail;apply aC (q.o _ i.o);intro I b;have s:xA _:=oB i.o b;clear b x y;go_wp2;go_ret;exact⟨fD E.o.symm,s.o⟩
 have j:jK (left-f.N.size) f.M = -1:=by unfold jK;rw[Ja m]
 rw[j]at k;have E:xA (jV left f = -1):=by show _=_;unfold jV iE;rw[Ja];omega
 clear n o g c h d j m;go_enter func98,ntmps98;go_wp2_with fail;apply aC (k.o _ vB);intro B a;have i:xA _:=oB vB a;clear a;go_wp2;go_ret;exact⟨fD E.o.symm,i.o⟩
def XD(a:iC)(r:Nat)(c:List aB)(left:Int)(w:eA)(O:0<=left)(P:left<=1048576)(s:nC w a c)(u:DW c)(m:vA c<=maxLen):
 qD 46 #[oA a (vA c) r,lA mA left] w (lA mA (xJ left c)):=by
 unfold maxLen at m;by_cases G:left-vA c<0
 .have e:xJ left c = -1:=by unfold xJ;rw[Ja];omega
  rw[e];clear s u;go_enter func46,ntmps46;go_wp2;go_ret;exact⟨rfl,eD⟩
 have D:xA (nC w a c):=s;have F:xA (DW c):=u;clear s u;go_enter func46,ntmps46;go_wp2;go_loopw [1,5] (fun l i wr=>∃k:Nat,k<=vA c/\i=lA mA k/\(nB (c.take k):Int)<=left-vA c/\l=lA mA (left-vA c-nB (c.take k))/\kB w wr) (fun _ i _=>vA c-(intOf i).toNat)
 case atStart=>exact⟨0,Oa _,rfl,by simp[nB];omega,by simp[nB],eD⟩
 case round=>
  obtain⟨k,R,rfl,t,rfl,d⟩:=hrel;by_cases g:k<vA c
  .obtain ⟨b,o,v,A,x,B,rfl,Q,M,G,N,H,y,z⟩:=(D.o.z d).at g;have n:=F.o k g;have h:=rI c k g;have K:=zJ c (k+1);have q:xA (∀L:Int,0<=L->L<=1048576->qD 98 #[rA #[nA c[k].N,lA mA c[k].L,.slice v (vA c[k].M) A,.slice x (vA c[k].Z) B],lA mA L] wr (lA mA (jV L c[k]))):=
    fun L I J=>iz c[k] v x A B L wr I J n y z
   clear y z n;by_cases H:(iE c[k]:Int)<=left-vA c-nB (c.take k)
   .have E:xA (jV (left-vA c-nB (c.take k)) c[k]=left-vA c-nB (c.take (k+1))):=by
     show _=_;unfold jV;rw[Ma (by omega),h];omega
    have j:(nB (c.take (k+1)):Int)<=left-vA c:=by omega
    clear h;go_wp2_with fail;refine aC (q.o _ (by omega) (by omega)) ?_;intro p f;rw[E.o];clear q;go_wp2;exact⟨⟨k+1,by omega,by go_num,j,rfl,d.trans (f.mono d.size)⟩,by simp[intOf];omega⟩
   .have E:xA (jV (left-vA c-nB (c.take k)) c[k]= -1):=by
     show _=_;unfold jV;rw[Ja (by omega)]
    have C:xA (xJ left c = -1):=by show xJ left c = -1;unfold xJ;rw[Ja (by omega)]
    clear h;go_wp2_with fail;refine aC (q.o _ (by omega) (by omega)) ?_;intro p f;rw[E.o];clear q;go_wp2;go_ret;exact⟨fD C.o.symm,d.trans (f.mono d.size)⟩
  .go_wp2;go_ret;have e:c.take k=c:=Ra (by omega);rw[e]at t |-
   exact⟨fD (by unfold xJ;rw[Ma (by omega)]),d⟩
def tw(a:iC)(f:Nat)(b:List aB)(j:Int)(left:Int)(w:eA)(n:0<=left)(o:left<=1048576)(l:nC w a b)(m:DW b)(g:vA b<=maxLen):
 qD 13 #[rA #[lA mA j,oA a (vA b) f],lA mA left] w (lA mA (xJ left b)):=by
 have h:xA (∀W,kB w W->qD 46 #[oA a (vA b) f,lA mA left] W (lA mA (xJ left b))):=
  fun W p=>XD a f b left W n o (l.z p) m g
 clear l m;by_cases c:(vA b+nB b:Int)<=left
 .have e:xJ left b=left-vA b-nB b:=by unfold xJ;rw[Ma c]
  rw[e]at h |-
  have r:¬(left-vA b-nB b<0):=by omega
  generalize left-vA b-nB b=L at *;clear e;go_enter func13,ntmps13;go_wp2_with fail;apply aC (h.o _ vB);intro q d;have i:xA _:=oB vB d;clear d;go_wp2;go_ret;exact⟨rfl,i.o⟩
 have e:xJ left b = -1:=by unfold xJ;rw[Ja c]
 rw[e]at h |-
 clear e;go_enter func13,ntmps13;go_wp2_with fail;apply aC (h.o _ vB);intro q d;have i:xA _:=oB vB d;clear d;go_wp2;go_ret;exact⟨rfl,i.o⟩
def RB(w:eA)(B:Nat)(r:Rd):Prop:=iB w B #[nA r.rest,pA r.H] 156
def ua(B:Nat)(r:Rd)(n:Nat)(w:eA)(f:RB w B r)(o:n<=70000)(l:r.rest.size<=1000000000):
 gA prog 204 #[qA (bA ⟨B,0,aA⟩),lA mA (n:Nat)] w fun e i=>e=sA (nA (iD n r).1)/\RB i B (iD n r).2/\tD B w i:=by
 have g:xA (RB w B r):=f;have j:=iB.cell f 0;have k:=iB.cell f 1;simp only[Xb,Ob,Ga]at j k;have a:=iB.free f 0;have b:=iB.free f 1;obtain⟨c,d⟩:=r;simp only at j k l;clear f;by_cases h:c.size<n
 .have E:xA (iD n ⟨c,d⟩=(kA,⟨c,dA⟩)):=by show _=_;unfold iD;rw[Ma h]
  rw[E.o];go_enter func204,ntmps204;go_wp2;go_ret;exact⟨rfl,iB.set g.o 1 (pA dA),(tD.refl _ _).setCell _ _⟩
 have E:xA (iD n ⟨c,d⟩=(c.extract 0 n,⟨c.extract n c.size,d⟩)):=by show _=_;unfold iD;rw[Ja h]
 have m:¬((c.size:Int)<(n:Int)):=by omega
 rw[E.o];go_enter func204,ntmps204;go_wp2;go_ret;exact⟨rfl,iB.set g.o 0 (nA (c.extract n c.size)),(tD.refl _ _).setCell _ _⟩
def UL(B:Nat)(r:Rd)(k:Nat)(w:eA)(f:RB w B r)(l:k<=2)(i:r.rest.size<=1000000000):
 gA prog 166 #[qA (bA ⟨B,0,aA⟩),lA mA (k:Nat)] w fun e a=>e=sA (lA mA ((kD k r).1:Nat))/\RB a B (kD k r).2/\tD B w a:=by
 have d:xA (gA prog 204 #[qA (bA ⟨B,0,aA⟩),lA mA (k:Nat)] w fun e a=>e=sA (nA (iD k r).1)/\RB a B (iD k r).2/\tD B w a):=ua B r k w f (by omega) i;have HN:xA (∀W,dI 203 #[nA (iD k r).1] W (lA mA (rS (iD k r).1.data.toList:Nat))):=fun W=>nz _ W (by have:=(sP k r).1;omega);show gA _ _ _ _ fun e a=>e=sA (lA mA (rS (iD k r).1.data.toList:Nat))/\RB a B (iD k r).2/\tD B w a;clear f;generalize rS (iD k r).1.data.toList=N at *;generalize (iD k r).1=T at *;generalize (iD k r).2=j at *;go_enter func166,ntmps166;go_wp2_with fail;apply aC d.o;rintro g ⟨c,b⟩;have h:xA (RB g B j/\tD B w g):=⟨c,b⟩
 clear c b d;go_wp2_with fail;apply lK (HN.o _);go_wp2;go_ret;exact⟨rfl,h.o⟩
def ue(B:Nat)(r:Rd)(k:Nat)(w:eA)(l:RB w B r)(m:k<=2)(t:r.rest.size<=1000000000):
 gA prog 167 #[qA (bA ⟨B,0,aA⟩),lA mA (k:Nat)] w fun e a=>e=sA (nA (sC k r).1)/\RB a B (sC k r).2/\tD B w a:=by
 have j:xA (gA prog 166 #[qA (bA ⟨B,0,aA⟩),lA mA (k:Nat)] w fun e a=>e=sA (lA mA ((kD k r).1:Nat))/\RB a B (kD k r).2/\tD B w a):=UL B r k w l m t;have s:(kD k r).1<65536:=by
  have x:=FG k r;have y:256 ^ k<=256 ^ 2:=Sc (by omega) m;omega
 have g:(kD k r).2.rest.size<=1000000000:=by
  have:=(sP k r).2.2;show(iD k r).2.rest.size<=_;omega
 have q:xA (∀W,RB W B (kD k r).2->gA prog 204 #[qA (bA ⟨B,0,aA⟩),lA mA ((kD k r).1:Nat)] W fun e a=>e=sA (nA (sC k r).1)/\RB a B (sC k r).2/\tD B W a):=fun W h=>ua B _ _ W h (by omega) g;clear l;generalize (sC k r).1=T at *;generalize (sC k r).2=u at *;generalize (kD k r).1=N at *;generalize (kD k r).2=v at *;go_enter func167,ntmps167;go_wp2_with fail;apply aC j.o;rintro n ⟨d,b⟩;have i:xA (RB n B v/\tD B w n):=⟨d,b⟩
 clear d b j;go_wp2_with fail;apply aC (q.o _ i.o.1);rintro o ⟨f,c⟩;have p:xA (RB o B u/\tD B w o):=⟨f,i.o.2.trans c⟩
 clear f c;go_wp2;go_ret;exact⟨rfl,p.o⟩
def AY{w f:eA}{B base:Nat}{e:jA}{size:Nat}{v:iA}{n:Nat}{i:List iA}(h:w.ownsRow base e size v n i)(k:tD B w f)(o:B<base):f.ownsRow base e size v n i:=by
 obtain⟨j,c⟩:=h;refine⟨j,?_⟩;rcases c with c|⟨g,a,b,m,l,d,r⟩;exact Ca c;exact La ⟨g,a,b,m,l,(k.block g (zA d) (by omega)).trans d,r⟩
def tD.alloc{B:Nat}{w a:eA}(h:tD B w a)(o:Obj):tD B w (a.alloc o):=h.trans (tD.of vB)
def MQ(b:List eC):((yH b).1=0->uB b=(yF [] b,0,0)/\pV b/\kS b=dA/\(yH b).2=0/\¬16<vA b)/\((yH b).1≠0->uB b=([],(yH b).1,(yH b).2)):=by
 by_cases a:16<vA b
 .rw[RZ a,EE a];exact⟨fun h=>absurd h (by simp),fun _=>rfl⟩
 cases hb:cD b 0 with
 |some e=>
  obtain⟨c,i⟩:=e;rw[YJ a hb,BL a hb];refine⟨fun h=>?_,fun _=>rfl⟩;exfalso;have:∀(l:List eC)(j:Nat),cD l j=bA (c,i)->c≠0:=by
   intro l;induction l with
   |nil=>intro j h;simp[cD]at h
   |cons x r g=>
    intro j h;rw[cD]at h;split at h;exact g _ h
    rename_i f;simp only[Qa,Dc]at h;rw[<-h.1];exact f
  exact this b 0 hb h
 |none=>
  cases ht:gF [] b 0 with
  |some i=>
   rw[MR a hb ht,qZ a hb ht];exact⟨fun h=>absurd h (by simp),fun _=>rfl⟩
  |none=>
   have d:=aBr b ht;rw[YK a hb ht,qe b d];cases hm:kS b with
   |true=>
    rw[QT a hb ht hm];exact⟨fun _=>⟨rfl,d,rfl,rfl,a⟩,fun h=>absurd rfl h⟩
   |false=>
    rw[KO a hb ht hm];exact⟨fun h=>absurd h (by simp),fun _=>rfl⟩
def YY{b:List eC}(h:kS b=dA):0<vA (cM b):=by
 unfold kS at h;rw[Zd]at h;obtain⟨x,c,a⟩:=h;rw[Sa]at a;exact List.length_pos_of_mem (De.2 ⟨c,a.1⟩)
def DG(a:iC)(m:Nat)(c:List eC)(w:eA)(hf:yD w a c)(hB:bk c)(X:vA c<=2000000)(V:vA c<=m)(hT:vH w):
 gA prog 174 #[oA a (vA c) m] w fun e D=>∃a' n,e=sA (uA #[.slice a' (vA (uB c).1) n,lA mA ((uB c).2.1:Nat),lA mA ((uB c).2.2:Nat)])/\vA (uB c).1<=n/\uE D w.1.size a' (uB c).1/\kB w D:=by
 have y:xA (qD 207 #[oA a (vA c) m] w (uA #[lA mA ((yH c).1:Nat),lA mA ((yH c).2:Nat)])):=mw a m c w hf hB X V hT;have HF:xA (yD w a c):=hf;obtain⟨L,M⟩:=MQ c;clear hf hB hT;by_cases S:(yH c).1=0
 .obtain ⟨r,Z,H,h2,h16⟩:=L S;have F:xA (qD 207 #[oA a (vA c) m] w (uA #[lA mA 0,lA mA 0])):=by
   show gA _ _ _ _ _;have:=y.o;rw[S,h2]at this;exact this
  have j:xA (uB c=(yF [] c,0,0)/\pV c/\0<vA (cM c)):=⟨r,Z,YY H⟩
  obtain⟨ti,b0,hz0,hz1,hz2⟩:=SU;have HI:xA _:=b0;clear L M S r Z H h2 y b0;go_enter func174,ntmps174;go_wp2_with fail;apply aC F.o;intro w1 p;have K:xA _:=p;clear p F;go_wp2;go_loopw [7,9,21] (fun out _ i wr=>∃(k:Nat)(d:List eC)(P:iC)(u:Nat),k<=vA c/\vA d<=k/\xA (d=cM (c.take k))/\i=lA mA k/\out=oA P (vA d) u/\xA (wr.ownsRow w.1.size 116 2 (oA P (vA d) u) (vA d) (xD d))/\kB w wr) (fun _ _ i _=>vA c-(intOf i).toNat)
  case atStart=>exact⟨0,[],aA,0,Oa _,Oa _,rfl,rfl,rfl,⟨rfl,Ca ⟨rfl,rfl⟩⟩,K.o⟩
  case round=>
   obtain⟨k,d,P,u,hk,hy,HY,rfl,rfl,f,l⟩:=hrel;by_cases Y:k<vA c
   .obtain ⟨b,o,rfl,hb,c0,c1⟩:=(HF.o.z l).at Y;have HS:=xu c k Y;have hE:=oy c[k];have hsz:=l.size;by_cases s:tT c[k]=dA
    .have E:xA (d=cM (c.take (k+1))):=by show _=_;rw[HS,Ma s,Cd];exact HY.o
     have heb:c[k].V.toList.isEmpty=dA:=by rw[<-hE];exact s
     clear HS s hE;generalize c[k].N=nm at *;generalize c[k].V=va at *;go_wp2;exact⟨⟨k+1,d,P,u,by omega,by omega,E.o,by go_num,rfl,jC f.o vB,oB l vB⟩,by simp[intOf];omega⟩
    have E:xA (d++[c[k]]=cM (c.take (k+1))):=by show _=_;rw[HS,Ja s,HY.o]
    have heb:c[k].V.toList.isEmpty=cA:=by rw[<-hE];simpa using s
    have HLK:xA (xD [c[k]]=[nA c[k].N,nA c[k].V]):=rfl;clear HS s hE;generalize c[k]=lk at *;generalize lk.N=nm at *;generalize lk.V=va at *;have HW:xA (∀x,kB wr ((wr.alloc (tA #[nA nm,nA va] 116)).alloc x)):=fun x=>oB vB vB;go_wp2_with(at_builtin;refine wpList_append_lies _ rfl _ _ _ rfl w.1.size 116 ti _ 2 32 underlying65 HI.o hz0 hz1 hz2 rfl (by omega) (oA P (vA d) u) (vA d) (xD d) rfl (by exact jC f.o (HW.o _)) ⟨wr.1.size+1,0,aA⟩ 1 1 [nA nm,nA va] rfl rfl (by exact aGi _ _ #[nA nm,nA va] _) (by simp[iA.oneCell']) (by omega) (by simp[maxLen];omega) (by omega) (by simp;omega) (wr.1.size+1+1) (by simp) ?_;intro g5 R w5 t A hat5 hlt5);have hB5:=(oB l (HW.o _)).grown A (by simp;omega) (fun q hq=>qI f.o q hq);have O:vA (d++[lk])=vA d+1:=by simp
    have hxs:xD d++[nA nm,nA va]=xD (d++[lk]):=by rw[aI,HLK.o]
    rw[hxs,<-O]at t;exact⟨⟨k+1,d++[lk],bA ⟨g5,0,aA⟩,R,by omega,by rw[O];omega,E.o,by go_num,by rw[O],t,hB5⟩,by simp[intOf];omega⟩
   have Q:xA (d=cM c):=by show _=_;rw[HY.o,Ra (by omega)]
   have J:0<vA d:=by rw[Q.o];exact j.o.2.2
   have G:=eM f.o;obtain⟨g,z,hav,N,W,T,hcv⟩:∃g z,P=bA ⟨g,0,aA⟩/\w.1.size<=g/\iB wr g z 116/\rR wr g 0 d/\vA d<=u:=by
    rcases f.o.2 with⟨_,hl⟩|⟨g,n,z,s,N,hg,hcc,_⟩;omega;simp only[iA.slice.injEq]at s;rcases G with h|⟨g',o',cur',t',e',_,_,hl⟩;rw[h]at J;exact absurd J (by simp);rw[s.1]at e';simp only[Qa,Addr.mk.injEq,Cc]at e';obtain⟨rfl,rfl⟩:=e';exact⟨g,z,s.1,N,hg,hl,by rw[s.2.2];exact hcc⟩
   have HSC:xA (gA prog 208 #[oA (bA ⟨g,0,aA⟩) (vA d) u,.func (.func 209) #[] #[]] wr fun e D=>
    e=sA (uA #[])/\∃B,B.Perm d/\B.Pairwise Le/\uE D w.1.size (bA ⟨g,0,aA⟩) B/\Below w.1.size wr D):=haveI:=aOo;ia g u d wr w.1.size N W T (by omega)
   subst hav;clear f G T W;go_wp2_with fail;apply aC HSC.o;rintro w2 ⟨B,hp,hs,a0,U⟩;have E1:=aq j.o.2.1 (by rw[<-Q.o];exact hp) hs;have EL:xA (vA d=vA (yF [] c)):=by show _=_;rw[<-E1,hp.length_eq]
   have HOW:xA (uE w2 w.1.size (bA ⟨g,0,aA⟩) (yF [] c)):=by rw[<-E1];exact a0
   have HB2:xA _:=l.trans U;clear hp hs a0 U E1;go_wp2;refine bodyPost_ret (v:=uA #[oA (bA ⟨g,0,aA⟩) (vA d) u,lA mA 0,lA mA 0]) (by simp[results,results174,go_sem]) rfl ⟨bA ⟨g,0,aA⟩,u,?_,?_,?_,HB2.o⟩
   .rw[j.o.1,EL.o];rfl
   .rw[j.o.1,<-EL.o];exact hcv
   rw[j.o.1];exact HOW.o
 .have r:=M S;have j:xA _:=r;have h0b:(((yH c).1:Int) != 0)=dA:=by simp;omega
  clear L M S r;generalize (yH c).1=C at *;generalize (yH c).2=I at *;go_enter func174,ntmps174;go_wp2_with fail;apply aC y.o;intro w1 p;have K:xA _:=p;clear p y;go_wp2;refine bodyPost_ret (v:=uA #[oA aA 0 0,lA mA C,lA mA I]) (by simp[results,results174,go_sem]) rfl ⟨aA,0,?_,?_,?_,K.o⟩
  .rw[j.o];rfl
  .rw[j.o];exact Ia _
  rw[j.o];exact Ca rfl
def aSd:NeqAt prog 116 (fun x:eC=>rA #[nA x.N,nA x.V]) sV:=by
 refine⟨fun x y w=>?_,GuardAt.agg _ (by kernel_rfl)⟩;have f:=underlying9;have e:=isAgg9;have g:=sizeOf9;have c:prog.underlying 116=bA (.struct (prog.fieldsOf 116)):=by kernel_rfl
 have d:prog.stoodInHeld 116=cA:=by kernel_rfl
 rw[run_neq_struct,show(10000:Nat)=9999+1 from rfl,run_equalIn_agg w 9999 116 _ _ c d];simp only[Program.fieldsOf,underlying116];go_simp;by_cases a:x.N.toList=y.N.toList<;>by_cases b:x.V.toList=y.V.toList<;>simp[sV,a,b]
def vj{a:List eC}(h:(uB a).2.1=0):0<vA (uB a).1/\0<vA a:=by
 obtain⟨d,e⟩:=MQ a;by_cases c:(yH a).1=0
 .obtain ⟨b,_,g,_⟩:=d c;have f:=YY g;have i:=BS a;rw[b];simp only;rw[EU];exact⟨f,by omega⟩
 have b:=e c;rw[b]at h;exact absurd h c
def QK:∀(a b:List eC),Lib.allEq sV a b=mH a b
 |[],[]=>rfl
 |[],_::_=>rfl
 |_::_,[]=>rfl
 |x::r,y::q=>by rw[Lib.allEq,mH,QK r q]
def TO[Inhabited eC]{w:eA}{b o:Nat}{a:List eC}(h:rR w b o a):∀j,j<vA a->∀i v,(rV a[j]!)[i]?=bA v->w.cell? ⟨b,o+j*2+i,aA⟩=bA v:=by grind [rR,rV]
def yD.some{w:eA}{a:iC}{c:List eC}(h:yD w a c)(d:0<vA c):∃b o,a=bA ⟨b,o,aA⟩/\b<w.1.size/\rR w b o c:=by
 rcases h with rfl|h;exact absurd d (by simp);exact h
def mj(w:eA)(q:Nat):kB w (w.drewN q):=⟨rfl,rfl,rfl,Ia _,fun _ _=>rfl⟩
def aEk(a j:iC)(g b:Nat)(d f:List eC)(w:eA)(p:yD w a d)(s:yD w j f)(h:0<vA d)(i:0<vA f)(r:vA d<=2000000)(t:vA f<=2000000):
 qD 271 #[oA a (vA d) g,oA j (vA f) b] w (pA (mH d f)):=by
 obtain⟨l,u,rfl,_,n⟩:=p.some h;obtain⟨m,v,rfl,_,o⟩:=s.some i;haveI:=aOo
 have c:=AnyQ.slices_Equal eqlL 2 isAgg116 sizeOf116 rV (fun _=>rfl) sV aSd l u (vA d) g m v (vA f) b d f w (Ia _) (Ia _) (by omega) (by omega) (TO n) (TO o);change gA prog 271 _ _ _ at c;apply aC c;rintro k ⟨q,rfl⟩;rw[Rb,Rb,QK];exact⟨rfl,mj w q⟩
def aFh(a:iC)(d:Nat)(b:List eC)(w:eA)(s:yD w a b)(z:bk b)(h:vA b<=2000000)(k:vA b<=d)(A:vH w):
 qD 236 #[oA a (vA b) d] w (pA (vP b)):=by
 have l:xA (gA prog 174 #[oA a (vA b) d] w fun e n=>∃y g,e=sA (uA #[.slice y (vA (uB b).1) g,lA mA ((uB b).2.1:Nat),lA mA ((uB b).2.2:Nat)])/\vA (uB b).1<=g/\uE n w.1.size y (uB b).1/\kB w n):=DG a d b w s z h k A;have D:xA (yD w a b):=s;have J:=QS b;clear s z A;by_cases i:(uB b).2.1=0
 .obtain ⟨t,u⟩:=vj i;have p:xA _:=fun W m q H I=>aEk m a q d _ b W H I t u (by omega) h;have E:xA (vP b=mH (uB b).1 b):=by show _=_;unfold vP;rw[i];rfl
  have r:(((uB b).2.1:Int)==0)=dA:=by simp;omega
  rw[E.o];clear i E;generalize mH (uB b).1 b=K at *;generalize (uB b).1=C at *;generalize (uB b).2.1=F at *;generalize (uB b).2.2=G at *;go_enter func236,ntmps236;go_wp2_with fail;refine l.o.mono ?_;rintro e v ⟨m,q,rfl,_,f,c⟩;have o:xA _:=c;have x:xA (yD v m C/\yD v a b):=⟨f.B,D.o.z c⟩
  clear f c l;go_wp2_with fail;apply aC (p.o _ _ _ x.o.1 x.o.2);intro L j;have B:xA _:=oB o.o j;clear j;go_wp2;go_ret;exact⟨rfl,B.o⟩
 have E:xA (vP b=cA):=by show _=_;unfold vP;rw[Ub i];rfl
 have r:(((uB b).2.1:Int)==0)=cA:=by simp;omega
 rw[E.o];clear i E;generalize (uB b).1=C at *;generalize (uB b).2.1=F at *;generalize (uB b).2.2=G at *;go_enter func236,ntmps236;go_wp2_with fail;refine l.o.mono ?_;rintro e v ⟨m,q,rfl,_,f,c⟩;have o:xA _:=c;clear f c l;go_wp2;go_ret;exact⟨rfl,o.o⟩
def qU(k:Int):Bool:=k==1||k==3||k==5||k==6
def oU(k:Int):Bool:=k==3||k==5
def zU(k:Int):Bool:=k==2||k==3
def TM(l:eC):Prop:=l.N.size<=255/\l.V.size<=65535
def NY(x:cF):Prop:=vA x.B<=255/\∀i(h:i<vA x.B),TM x.B[i]
def aIg(a:List cF):Prop:=∀i(h:i<vA a),NY a[i]
def nS(r:xG):Prop:=(1<=r.K/\r.K<=6)/\(qU r.K=cA->r.T.size=0)/\(oU r.K=cA->r.R.size=0)/\(zU r.K=cA->r.U=0)/\(r.K≠1->r.P=[])/\r.T.size<=255/\r.R.size<=65535/\vA r.P<=500/\aIg r.P
def nT(x:cF):gB:=bI x.B++pB 8 x.bits
def sE:List cF->gB
 |[]=>kA
 |x::r=>nT x++sE r
def wM:∀(a b:List cF),sE (a++b)=sE a++sE b
 |[],b=>by simp[sE]
 |r::q,b=>by
  show nT r++sE (q++b)=nT r++sE q++sE b;rw[wM q b,Wa]
def tX(a:List cF)(k:Nat)(h:k<vA a):sE (a.take (k+1))=sE (a.take k)++nT a[k]:=by
 rw[Pa h,wM];simp[sE]
def dW(r:xG):gB:=
 pB 1 r.K++((if qU r.K=dA then kO r.T else kA)++((if r.K=1 then pB 2 (vA r.P:Nat)++sE r.P else kA)++((if oU r.K=dA then qF r.R else kA)++(if zU r.K=dA then pB 8 r.U else kA))))
def aUz(l:List cF):Decidable (l=[]):=match l with
 |[]=>isTrue rfl
 |_::_=>isFalse (fun h=>by cases h)
def aUh(r:xG):Decidable (nS r):=by
 haveI:=aUz r.P
 unfold nS aIg NY TM;infer_instance
def vN(r:xG):gB:=haveI:=aUh r;if nS r/\(dW r).size<=60000 then dW r else kA
def gq{r:xG}(h:nS r)(a:(dW r).size<=60000):vN r=dW r:=by unfold vN;rw[Ma ⟨h,a⟩]
def PN{r:xG}(h:¬nS r):vN r=kA:=by unfold vN;rw[Ja fun a=>h a.1]
def JF{r:xG}(h:60000<(dW r).size):vN r=kA:=by unfold vN;rw[Ja fun a=>by omega]
def aUt(b:gB):b++kA=b:=by simp
def aOa(b:gB):kA++b=b:=by simp
theorem kK:∀(a:List eC),(jD a).size=3*vA a+nD a
 |[]=>rfl
 |l::r=>by
  rw[jD,Ka,Ka,lH,uF,kK r];simp only[Zb,nD];omega
def jQ(x:cF):(nT x).size=9+3*vA x.B+nD x.B:=by grind [nT,nD,bI,qB,kK]
def mO:List cF->Nat
 |[]=>0
 |x::r=>nD x.B+mO r
def BG(a b:List cF):mO (a++b)=mO a+mO b:=by
 induction a with
 |nil=>simp[mO]
 |cons f r c=>simp[mO,c];omega
def bg(a:List cF)(k:Nat)(h:k<vA a):mO (a.take (k+1))=mO (a.take k)+nD a[k].B:=by
 rw[Pa h,BG];simp[mO]
def aQg(a:List cF):mO a<=fE a:=by induction a<;>grind [mO,fE,eH]
def RQ:∀(a:List cF),mO a<=(sE a).size
 |[]=>by simp[mO]
 |x::r=>by
  have h:=RQ r;have e:(sE (x::r)).size=(nT x).size+(sE r).size:=by show(nT x++sE r).size=_;rw[Ka]
  have b:=jQ x;rw[e];simp only[mO];omega
def TN(a:List eC)(i:Nat)(h:i<vA a):a[i].N.size+a[i].V.size<=nD a:=by
 have b:=xU a i h;have c:=tR a (i+1);omega
def aTg(a:List cF)(i:Nat)(h:i<vA a):nD a[i].B<=mO a:=by
 have b:=bg a i h;have e:=BG (a.take (i+1)) (a.drop (i+1));rw[Za]at e;omega
def aRi(x:cF):Prop:=vA x.B<=255/\∀i(h:i<vA x.B),x.B[i].N.size<=255
def xY(r:xG):Prop:=r.T.size<=255/\vA r.P<=500/\∀i(h:i<vA r.P),aRi r.P[i]
def YM(r:xG):Prop:=(qU r.K=cA->r.T.size=0)/\(oU r.K=cA->r.R.size=0)/\(zU r.K=cA->r.U=0)/\(r.K≠1->r.P=[])
def aUi{r:xG}(e:1<=r.K/\r.K<=6)(b:YM r)(a:xY r)(h:r.T.size+r.R.size+mO r.P<=60000):nS r:=by
 refine⟨e,b.1,b.2.1,b.2.2.1,b.2.2.2,a.1,by omega,a.2.1,fun i c=>⟨(a.2.2 i c).1,fun j d=>⟨(a.2.2 i c).2 j d,?_⟩⟩⟩;have f:=TN r.P[i].B j d;have g:=aTg r.P i c;omega
def aSw{r:xG}(h:nS r):YM r:=⟨h.2.1,h.2.2.1,h.2.2.2.1,h.2.2.2.2.1⟩
def aSu{r:xG}(h:nS r):xY r:=⟨h.2.2.2.2.2.1,h.2.2.2.2.2.2.2.1,fun i a=>⟨(h.2.2.2.2.2.2.2.2 i a).1,fun j b=>((h.2.2.2.2.2.2.2.2 i a).2 j b).1⟩⟩
def aQh{r:xG}(h:nS r)(d:60000<r.T.size+r.R.size+mO r.P):60000<(dW r).size:=by
 obtain⟨_,a,b,_,c,_⟩:=h;have e:=RQ r.P;have f:r.T.size<=(if qU r.K=dA then kO r.T else kA).size:=by
  split;rw[lH];omega;rw[a (by simp_all)];exact Oa _
 have g:mO r.P<=(if r.K=1 then pB 2 (vA r.P:Nat)++sE r.P else kA).size:=by
  split;rw[Ka];omega;rw[c (by assumption)];exact Oa _
 have i:r.R.size<=(if oU r.K=dA then qF r.R else kA).size:=by
  split;rw[uF];omega;rw[b (by simp_all)];exact Oa _
 simp only[dW,Ka];omega
def GA(v:Int):Prop:=-9223372036854775808<=v/\v<=9223372036854775807
def nF(n:Nat):Int:=IntKind.i64.wrap (n:Int)
def JW(n:Nat):nF n=if n % 18446744073709551616<9223372036854775808 then((n % 18446744073709551616:Nat):Int) else((n % 18446744073709551616:Nat):Int)-18446744073709551616:=by
 unfold nF IntKind.wrap;simp[IntKind.bits,IntKind.signed];split<;>split<;>omega
def tG{n:Nat}(h:n<9223372036854775808):nF n=(n:Int):=by rw[JW,Ma (by omega)];omega
def CM(n:Nat):GA (nF n):=by rw[JW];unfold GA;split<;>omega
def aLa(n:Nat)(v:Int):pB n v=pB n ((v % (256 ^ n:Nat)).toNat:Nat):=by
 have key:∀m,m<=n->jZ v m=jZ ((v % (256 ^ n:Nat)).toNat:Nat) m:=by
  intro m;induction m with
  |zero=>intro _;rfl
  |succ m a=>
   intro h;rw[jZ,jZ,a (by omega)];congr 1;have b:∀(u:Int) k,FO u k=u / ((256 ^ k:Nat):Int):=by
    intro u k;induction k with
    |zero=>simp[FO]
    |succ k a=>rw[FO,a,Int.ediv_ediv_of_nonneg (Int.natCast_nonneg _),Od,Int.natCast_mul];rfl
   have c:0<=v % ((256 ^ n:Nat):Int):=Int.emod_nonneg _ (by have:=Zf (n:=n) (show 0<256 by omega);omega);rw[b,b,Int.toNat_of_nonneg c];obtain⟨d,g⟩:∃d,n=m+1+d:=⟨n-m-1,by omega⟩
   have e:((256 ^ n:Nat):Int)=((256 ^ m:Nat):Int)*(256*((256 ^ d:Nat):Int)):=by
    subst g;rw[Nat.pow_add,Nat.pow_add,Nat.pow_one,Nat.mul_assoc,Int.natCast_mul,Int.natCast_mul];rfl
   have i:(0:Int)<((256 ^ m:Nat):Int):=by have:=Zf (n:=m) (show 0<256 by omega);omega
   generalize ((256 ^ m:Nat):Int)=A at *;generalize ((256 ^ d:Nat):Int)=D at *;rw[e];have f:v % (A*(256*D))=v-A*(256*D*(v / (A*(256*D)))):=by
    rw[Int.emod_def];congr 1;rw[Int.mul_assoc]
   rw[f,show v-A*(256*D*(v / (A*(256*D))))=v+A*(-(256*D*(v / (A*(256*D))))) by rw[Int.mul_neg];rfl,Int.add_mul_ediv_left _ _ (by omega)];rw[show -(256*D*(v / (A*(256*D))))=256*(-(D*(v / (A*(256*D))))) by rw[Int.mul_neg,Int.mul_assoc],Int.add_mul_emod_self_left]
 show strOfNums _=strOfNums _;rw[key n (Ia _)]
def kr(v:Int)(h:GA v):nF (rS (pB 8 v).data.toList)=v:=by
 obtain⟨b,c⟩:=h;have a:((256 ^ 8:Nat):Int)=18446744073709551616:=by decide
 have d:((v % ((256 ^ 8:Nat):Int)).toNat:Int)=v % 18446744073709551616:=by rw[a];omega
 rw[aLa,kX 8 _ (by
  have:(256:Nat) ^ 8=18446744073709551616:=by decide
  rw[this];omega),JW]
 split<;>omega
def VL{n:Nat}{r:Rd}(h:r.H=dA):(iD n r).2.H=dA:=by
 unfold iD;split<;>simp[h]
def aT{k:Nat}{r:Rd}(h:r.H=dA):(kD k r).2.H=dA:=by rw[kD];exact VL h
def vY{k:Nat}{r:Rd}(h:r.H=dA):(sC k r).2.H=dA:=by rw[sC];exact VL (aT h)
def AS{k:Nat}{r:Rd}{v:Int}{q:gB}(h:r.rest=pB k v++q):kD k r=(rS (pB k v).data.toList,⟨q,r.H⟩):=by
 have a:=CH (n:=k) h (qB k _);unfold kD;rw[a]
def aPj(r:vE):iA:=rA #[lA mA r.K,nA r.T,nA r.X,lA mA r.U]
def vV(r:vE):iA:=if r.K=1 then .iface 384 (rA #[lA mA 1,nA r.T,nA r.X]) else if r.K=2 then .iface 386 (rA #[lA mA 2,nA kA,lA mA r.U]) else if r.K=3 then .iface 388 (rA #[lA mA 3,nA r.T,nA r.X,lA mA r.U]) else .nilIface
def nW(r:vE):Bool:=decide (r.K=1\/r.K=2\/r.K=3)
def mP(r:vE)(w:eA):
 qD 284 #[aPj r] w (uA #[vV r,pA (nW r)]):=by
 obtain⟨a,g,h,f⟩:=r;unfold aPj;by_cases b:a=1
 .subst b;go_enter func284,ntmps284;go_wp2;go_ret2;exact⟨rfl,vB⟩
 by_cases c:a=2
 .subst c;go_enter func284,ntmps284;go_wp2;go_ret2;exact⟨rfl,vB⟩
 by_cases d:a=3
 .subst d;go_enter func284,ntmps284;go_wp2;go_ret2;exact⟨rfl,vB⟩
 have E:xA (vV ⟨a,g,h,f⟩=.nilIface/\nW ⟨a,g,h,f⟩=cA):=⟨by unfold vV;simp[b,c,d],by unfold nW;simp[b,c,d]⟩
 go_enter func284,ntmps284;go_wp2;go_ret2;exact⟨by rw[E.o.1,E.o.2];rfl,vB⟩
def aMz:∃Z:Array iA,Z=Array.replicate 256 (.int .u32 0)/\∀w,(zeroValue 351).run prog w=.ok (rA Z) w:=⟨_,rfl,fun _=>by kernel_rfl⟩
def aAe(P:Program)(w:eA)(Z:Array iA)(t:jA)(b:∀v∈Z.toList,v.oneCell'=dA):
 (storeCells ⟨w.1.size,0,aA⟩ Z.toList).run P (w.alloc (tA Z t))=.ok () (w.alloc (tA Z t)):=by
 have a:(w.alloc (tA Z t)).heap[w.1.size]?=bA (tA Z t (0,0)):=heap_alloc_new _ _;have h:=run_storeCells_from (P:=P) w.1.size t Z.toList 0 Z _ a (by simp) b;rw[h];simp only[List.take_zero,Mb,Array.toArray_toList];rw[setRow_self _ _ Z t (0,0) a]
def kf(a:Nat)(b:a<4294967296):bits .and .u32 (a:Int) 1=((a % 2:Nat):Int):=by
 show IntKind.u32.wrap ((BitVec.ofInt 32 (a:Int) &&& BitVec.ofInt 32 ((1:Nat):Int)).toNat:Int)=_;rw[BitVec.toNat_and,Nc,Nc,Hc,Hc,Ic (by omega),Ic (by omega),Nat.and_one_is_mod];simp only[IntKind.wrap,IntKind.bits,IntKind.signed];simp;omega
def ju(a b:Nat)(c:a<4294967296)(d:b<4294967296):bits .xor .u32 (a:Int) (b:Int)=((a ^^^ b:Nat):Int):=by
 have e:a ^^^ b<2 ^ 32:=Qd (by omega) (by omega);show IntKind.u32.wrap ((BitVec.ofInt 32 (a:Int) ^^^ BitVec.ofInt 32 (b:Int)).toNat:Int)=_;rw[Jg,Nc,Nc,Hc,Hc,Ic (by omega),Ic (by omega)];simp only[IntKind.wrap,IntKind.bits,IntKind.signed];simp;omega
def pz(w:eA):
 gA prog 253 #[] w fun e v=>∃b a,e=sA (qA (bA ⟨b,0,aA⟩))/\w.1.size<=b/\iB v b a 351/\(∀i,i<256->a[i]?=bA (.int .u32 (vt i:Nat)))/\kB w v:=by
 obtain⟨Z,l,I⟩:=aMz;have r:Z.size=256:=by rw[l];simp
 have C:=aAe prog w Z 351 (by rw[l];simp[iA.oneCell']);have s:iB (w.alloc (tA Z 351)) w.1.size Z 351:=heap_alloc_new _ _;have y:xA (iB (w.alloc (tA Z 351)) w.1.size Z 351):=s;clear l s;go_enter func253,ntmps253;go_wp2;go_loopw [2,3,5] (fun _ _ c wr=>∃(k:Nat)(a:Array iA),k<=256/\c=lA mA k/\xA (iB wr w.1.size a 351)/\a.size=256/\xA (∀i,i<k->a[i]?=bA (.int .u32 (vt i:Nat)))/\xA (kB w wr)) (fun _ _ c _=>256-(intOf c).toNat)
 case atStart=>exact⟨0,Z,by omega,rfl,y,r,fun i u=>absurd u (by omega),vB⟩
 case round=>
  obtain⟨k,a,H,rfl,d,m,h,g⟩:=hrel;by_cases B:k<256
  .go_wp2;go_loop [3,10] (fun x c=>∃(j X:Nat),j<=8/\c=lA mA j/\x=.int .u32 X/\X<4294967296/\xA (X=bP k j)) (fun _ c=>8-(intOf c).toNat)
   case atStart=>exact⟨0,k,by omega,rfl,by go_num,by omega,rfl⟩
   case round=>
    obtain⟨j,X,G,rfl,rfl,A,o⟩:=hrel;have t:=kf X A;have q:=ju (X / 2) 2197175160 (by omega) (by omega);by_cases D:j<8
    .by_cases f:X % 2=1
     .rw[f]at t;go_wp2;refine⟨⟨j+1,(X / 2) ^^^ 2197175160,by omega,by go_num,?_,Qd (n:=32) (by omega) (by omega),?_⟩,by simp[intOf];omega⟩
      .rw[<-q];congr 2
      show _=_;rw[bP,<-o.o,jW,Ma f]
     have z:X % 2=0:=by omega
     rw[z]at t;go_wp2;refine⟨⟨j+1,X / 2,by omega,by go_num,?_,by omega,?_⟩,by simp[intOf];omega⟩
     .go_num
     show _=_;rw[bP,<-o.o,jW,Ja f]
    have e:j=8:=by omega
    subst e;have E:wr.cell? ⟨w.1.size,k,aA⟩=bA (a[k]'(by omega)):=by rw[d.o.cell];exact Qc _
    have F:=d.o.free k;go_wp2;refine⟨⟨k+1,a.setIfInBounds k (.int .u32 X),by omega,by go_num,d.o.set k _,by simp[m],?_,?_⟩,by simp[intOf];omega⟩
    .intro i u;rw[Eb];split
     .rename_i e;subst e;rw[Ma (by omega),o.o];rfl
     exact h.o i (by omega)
    exact g.o.setCell (p:=⟨w.1.size,k,aA⟩) (Ia _) _
  have e:k=256:=by omega
  subst e;go_wp2;go_ret;exact⟨w.1.size,a,rfl,Ia _,d.o,h.o,g.o⟩
def shB(k:Int)(j:Nat):Bool:=match j with
 |0=>qU k
 |1=>k==1
 |2=>oU k
 |3=>zU k
 |_=>k==1||k==2||k==3||k==4
def wO(w:eA):Prop:=0<w.1.size/\∀i j,i<7->j<5->w.cell? ⟨0,i*5+j,aA⟩=bA (pA (shB (i:Int) j))
def wO.z{w b:eA}(h:wO w)(a:kB w b):wO b:=⟨Bb h.1 a.size,fun i j c d=>(a.cell h.1).trans (h.2 i j c d)⟩
def wO.but{w b:eA}{B:Nat}(h:wO w)(a:tD B w b)(c:0≠B):wO b:=
 ⟨Bb h.1 a.size,fun i j d e=>(eA.cell?_of_block (a.block _ h.1 c)).trans (h.2 i j d e)⟩
