import Derived.Test.YtcmdjimlmnaojaaGreatDoorJ09
import Derived.Test.YtcmdjimlmnaojaaGreatDoorJ10
set_option maxRecDepth 100000
set_option maxHeartbeats 4000000
set_option linter.defProp false
open Bool renaming false->dA,true->eA
open Option renaming some->cA
open ByteArray renaming empty->lA
open List renaming length->zA
namespace Go.Proofs.YtcmdjimlmnaojaaGreatDoor
open Go renaming World->fA,Value->jA,Calls->iA,TypeId->kA
open Value renaming string->pA,bool->sA,slice->qA,tuple->yA
open Obj renaming cells->xA
open Ending renaming returned->vA
open Go.RowKit Tryz
def YG(s:pB)(w:fA)(o:s.size<=maxLen):
 rI 320 #[pA s] w (sA (PN s)):=by
 unfold maxLen at o;by_cases d:1<=s.size/\s.size<=64
 .have q:¬((s.size:Int)<1):=by omega
  go_enter func320,ntmps320;go_wp2;apply wp_scope_straight;go_wp2;apply wp_label;go_wp2;go_loop [3,4,20,35] (λi _ _ _=>∃j:Nat,j<=s.size/\i=aB j/\cB (∀k,k<j->BA s k)) (λi _ _ _=>s.size-(intOf i).toNat)
  case atStart=>exact⟨0,Oa _,rfl,λk m=>absurd m (by omega)⟩
  case round=>
   obtain⟨j,x,rfl,b⟩:=hrel;by_cases a:j<s.size
   .have n:s[j].toNat<256:=s[j].toNat_lt;have c:cB (s[j].toNat=zC s j):=bV s j a;have l:((j:Int)==(s.size:Int))=dA:=by simp;omega
    by_cases u:s[j].toNat=95
    .have g:((s[j].toNat:Int)==95)=eA:=by simp;omega
     go_wp2;all_goals
      refine⟨⟨j+1,by omega,by go_num,?_⟩,by simp[intOf];omega⟩;show ∀k,_;intro k m;by_cases e:k=j
      .subst e;unfold BA dY;rw[<-c.o];omega
      exact b.o k (by omega)
    have g:((s[j].toNat:Int)==95)=dA:=by simp;omega
    go_wp2;all_goals first
     |(go_ret
       refine⟨oB (jV ?_).symm,rfl⟩;intro h;have:=h.2.2 j a;unfold BA dY NX at this;rw[<-c.o]at this;omega)
     |(refine⟨⟨j+1,by omega,by go_num,?_⟩,by simp[intOf];omega⟩
       show ∀k,_;intro k m
       by_cases e:k=j
       .subst e
        unfold BA dY NX;rw[<-c.o];omega
       exact b.o k (by omega))
   have l:((j:Int)==(s.size:Int))=eA:=by simp;omega
   go_wp2;go_ret;exact⟨oB (VK ⟨by omega,by omega,λi v=>b.o i (by omega)⟩).symm,rfl⟩
 have E:cB (PN s=dA):=jV (λh=>d ⟨h.1,h.2.1⟩);by_cases r:(s.size:Int)<1
 .clear d;go_enter func320,ntmps320;go_wp2;apply wp_scope_straight;go_wp2;rw[Exit.noGoto_ret];show bodyPost prog f320 _ Exit.ret _ _;go_ret;exact⟨oB E.o.symm,rfl⟩
 have t:(64:Int)<s.size:=by omega
 clear d;go_enter func320,ntmps320;go_wp2;apply wp_scope_straight;go_wp2;rw[Exit.noGoto_ret];show bodyPost prog f320 _ Exit.ret _ _;go_ret;exact⟨oB E.o.symm,rfl⟩
def lU(x:cC):List jA:=[pA x.N,pA x.V]
def SG(l:cC)(w:fA)(m:l.N.size<=1000000000)(f:l.V.size<=1000000000)(c:kH w):
 cF 295 #[.agg #[pA l.N,pA l.V]] w (aB (xQ l:Nat)):=by
 have j:cB (kH w):=c;have b:cB _:=λW=>YG l.N W (by unfold maxLen;omega);have k:cB _:=λW h=>KG l.V W f h;clear c m f;by_cases h:PN l.N=eA
 .have E:cB (xQ l=fP l.V):=by show _=_;rw[xQ,Ma h]
  rw[E.o];have a:cB _:=h;clear h E;generalize l.N=n at *;generalize l.V=g at *;generalize fP g=V at *;go_enter func295,ntmps295;go_wp2_with fail;apply jC (b.o _);intro p e;rw[a.o];replace e:=e.symm;subst e;go_wp2_with fail;apply jC (k.o _ (j.o.z bC));intro q d;have i:cB _:=aC bC d;clear d;go_wp2;go_ret;exact⟨rfl,i.o⟩
 have a:cB (PN l.N=dA):=by show _=_;simpa using h
 have E:cB (xQ l=41):=by show _=_;rw[xQ,Ja h]
 rw[E.o];clear h E;generalize l.N=n at *;generalize l.V=g at *;go_enter func295,ntmps295;go_wp2_with fail;apply jC (b.o _);intro p e;rw[a.o];replace e:=e.symm;subst e;go_wp2;go_ret;exact⟨rfl,bC⟩
def xf(t:pB)(B:Nat)(w:fA)(c:B<w.1.size)(a:w.cell? (eB B 0)=cA (pA t)):
 PredBelow prog 321 #[.pointer (vB B)] (λx=>.agg (lU x).toArray) (λx:cC=>x.N.toList==t.toList) w:=λW x b=>by
 have e:=(b.cell (p:=(eB B 0)) c).trans a;have d:=Bb c b.size;show iA prog 321 #[.agg #[pA x.N,pA x.V],.pointer (vB B)] W _;go_enter func321,ntmps321;go_wp2;go_ret;exact⟨rfl,b.alloc b.size _⟩
def ea(b o n c:Nat)(f:List cC)(t:pB)(w:fA)(u:b<w.1.size)(l:mP w b o f)(s:n<=zA f)(m:zA f<=2000000):
 cF 296 #[qA (cA (eB b o)) n c,pA t] w (sA ((f.take n).any λx=>x.N.toList==t.toList)):=by
 have q:∀args w,(callFunc 321 args).run prog w=.ok (.enter 321 args) w:=enters_of func321 (by kernel_rfl) rfl;haveI:=aHn
 have a:=AnyQ.slices_ContainsFunc contL 2 isAgg175 sizeOf175 lU (λ_=>rfl) (λx:cC=>x.N.toList==t.toList) 321 #[.pointer (vB w.1.size)] q b o n c f (w.alloc (xA #[pA t] 9))
  (xf t w.1.size _ (by simp) (by simp)) s (by omega) (by simp;omega) (λj k i v d=>by
   refine Lib.cell?_alloc_some _ ?_;have h:=l j k;have e:f[j]! = f[j]:=getElem!_pos f j k;rw[e]at d;match i,d with
   |0,d=>simp[lU]at d;rw[<-d];exact h.1
   |1,d=>simp[lU]at d;rw[<-d];exact h.2
   |i+2,d=>simp[lU]at d)
 change iA prog 211 _ _ _ at a;clear l;generalize ((f.take n).any λx=>x.N.toList==t.toList)=r at a |-
 go_enter func296,ntmps296;go_wp2_with(go_at_call 211;apply jC a;intro p g);go_ret;exact⟨rfl,((Below.refl _ w).alloc (Ia _) _).trans (g.mono (by simp))⟩
def QC:QA.toList=[95,95,110,97,109,101,95,95]:=by rw[QA,ByteArray.toList_eq]
def FH(a:nC)(l:Nat)(c:List cC)(w:fA)(p:qD w a c)(q:zA c<=2000000):
 cF 257 #[qA a (zA c) l] w (pA (jL c)):=by
 have s:cB (qD w a c):=p;clear p;go_enter func257,ntmps257;go_wp2;go_loopw [4,7] (λ_ i wr=>∃k:Nat,k<=zA c/\i=aB k/\cB (jL c=jL (c.drop k))/\xB w wr) (λ_ i _=>zA c-(intOf i).toNat)
 case atStart=>exact⟨0,Oa _,rfl,rfl,gD⟩
 case round=>
  obtain⟨k,z,rfl,j,d⟩:=hrel;by_cases g:k<zA c
  .obtain ⟨b,o,rfl,y,v,x⟩:=(s.o.z d).at g;have h:=VI c k g;have n:cB (kP c[k]=(c[k].N.toList==[95,95,110,97,109,101,95,95])):=by show _=_;rw[kP,QC]
   generalize c[k].N=r at *;by_cases f:kP c[k]=eA
   .have m:(r.toList==[95,95,110,97,109,101,95,95])=eA:=by rw[<-n.o];exact f
    have E:cB (jL c=c[k].V):=by show _=_;rw[j.o,h,Ma f]
    clear h f;generalize c[k].V=t at *;go_wp2;go_ret;exact⟨by rw[E.o];rfl,aC d bC⟩
   have m:(r.toList==[95,95,110,97,109,101,95,95])=dA:=by rw[<-n.o];simpa using f
   have E:cB (jL c=jL (c.drop (k+1))):=by show _=_;rw[j.o,h,Ja f]
   clear h f;generalize c[k].V=t at *;go_wp2;exact⟨⟨k+1,by omega,by go_num,E.o,aC d bC⟩,by simp[intOf];omega⟩
  have E:cB (jL c=lA):=by
   show _=_;rw[j.o,Yb (by omega)];rfl
  go_wp2;go_ret;exact⟨by rw[E.o];rfl,d⟩
def WR(a:List cC):Prop:=∀i(h:i<zA a),a[i].N.size<=1000000000/\a[i].V.size<=1000000000
def fI(a:List cC):Nat×Nat:=
 if 16<zA a then(40,0) else match fD a 0 with
 |some (c,i)=>(c,i)
 |none=>match pF [] a 0 with
  |some i=>(45,i)
  |none=>if ((jL a).toList==ByteArray.empty.toList)=eA then(46,0) else(0,0)
def ta{a b c d:Nat}(e:a=c)(f:b=d):Ending.returned (yA #[aB (a:Nat),aB (b:Nat)])=vA (yA #[aB (c:Nat),aB (d:Nat)]):=by rw[e,f]
def OI{a:List cC}(h:16<zA a):fI a=(40,0):=by unfold fI;rw[Ma h]
def UN{a:List cC}(h:¬16<zA a){c i:Nat}(b:fD a 0=cA (c,i)):fI a=(c,i):=by unfold fI;rw[Ja h,b]
def JY{a:List cC}(h:¬16<zA a)(b:fD a 0=none){i:Nat}(c:pF [] a 0=cA i):fI a=(45,i):=by unfold fI;rw[Ja h,b,c]
def UO{a:List cC}(h:¬16<zA a)(b:fD a 0=none)(c:pF [] a 0=none):fI a=if ((jL a).toList==ByteArray.empty.toList)=eA then(46,0) else(0,0):=by unfold fI;rw[Ja h,b,c]
def dq(a:nC)(g:Nat)(c:List cC)(w:fA)(h:qD w a c)(Z:WR c)(t:zA c<=2000000)(m:zA c<=g)(m:kH w):
 cF 262 #[qA a (zA c) g] w (yA #[aB ((fI c).1:Nat),aB ((fI c).2:Nat)]):=by
 have L:cB (qD w a c):=h;have n:cB (WR c):=Z;have Y:cB (kH w):=m;clear h Z m;by_cases J:16<zA c
 .rw[OI J];go_enter func262,ntmps262;go_wp2;go_ret2;exact⟨rfl,gD⟩
 have v:cB (¬16<zA c):=J;go_enter func262,ntmps262;go_wp2;go_loopw [4,5,6,14] (λ_ _ _ i wr=>∃k:Nat,k<=zA c/\i=aB k/\cB (fD c 0=fD (c.drop k) k)/\xB w wr) (λ_ _ _ i _=>zA c-(intOf i).toNat)
 case atStart=>exact⟨0,Oa _,rfl,rfl,gD⟩
 case round=>
  obtain⟨k,m,rfl,s,d⟩:=hrel;by_cases j:k<zA c
  .obtain ⟨b,o,rfl,N,c0,c1⟩:=(L.o.z d).at j;obtain⟨A,B⟩:=n.o k j;have y:cB _:=λW h=>SG c[k] W A B h;have q:=AV c k j;by_cases I:xQ c[k]=0
   .have E:cB (fD c 0=fD (c.drop (k+1)) (k+1)):=by show _=_;rw[s.o,q,Ma I]
    have H:cB (∀W,kH W->cF 295 #[.agg #[pA c[k].N,pA c[k].V]] W (aB 0)):=by
     show ∀_,_;have:=y.o;rw[I]at this;exact this
    clear q y I A B;generalize c[k].N=r at *;generalize c[k].V=C at *;go_wp2_with fail;apply jC (H.o _ ((Y.o.z d).z bC));intro T f;have l:cB _:=aC (aC d bC) f;clear f;go_wp2;exact⟨⟨k+1,by omega,by go_num,E.o,l.o⟩,by simp[intOf];omega⟩
   have E:cB _:=UN v.o (by rw[s.o,q,Ja I]);have n:((xQ c[k]:Int) != 0)=eA:=by simp;omega
   clear q I A B;generalize xQ c[k]=V at *;generalize c[k].N=r at *;generalize c[k].V=C at *;go_wp2_with fail;apply jC (y.o _ ((Y.o.z d).z bC));intro T f;have l:cB _:=aC (aC d bC) f;clear f;go_wp2;go_ret2;exact⟨ta (by rw[E.o]) (by rw[E.o]),l.o⟩
  have X:cB (fD c 0=none):=by
   show _=_;rw[s.o,Yb (by omega)];rfl
  clear s;go_wp2;clear j m;go_loopw [7,8,28] (λ_ _ i wr=>∃k:Nat,k<=zA c/\i=aB k/\cB (pF [] c 0=pF (c.take k) (c.drop k) k)/\xB w wr) (λ_ _ i _=>zA c-(intOf i).toNat)
  case atStart=>exact⟨0,Oa _,rfl,rfl,d⟩
  case round=>
   clear d;obtain⟨k,m,rfl,s,d⟩:=hrel;by_cases j:k<zA c
   .obtain ⟨b,o,rfl,N,c0,c1⟩:=(L.o.z d).at j;have q:=EM c k j;have K:mP wr b o c:=by
     rcases L.o.z d with h|⟨b',m,e,_,h⟩;rw[h]at j;exact absurd j (by simp);simp only[Qa,Addr.mk.injEq,Cc]at e;obtain⟨rfl,rfl⟩:=e;exact h
    have p:cB (∀W,xB wr W->cF 296 #[qA (cA (eB b o)) k g,pA c[k].N] W (sA ((c.take k).any λx=>rR x c[k]))):=λW R=>by
     have h:mP W b o c:=λi m=>by
      have:=K i m;exact⟨(R.cell N).trans this.1,(R.cell N).trans this.2⟩
     exact ea b o k g c c[k].N W (Bb N R.size) h (by omega) t
    have h:(0:Int)<=(k:Int):=by omega
    have h:(k:Int)<=(g:Int):=by omega
    clear K;by_cases D:((c.take k).any λx=>rR x c[k])=eA
    .have E:cB _:=JY v.o X.o (by rw[s.o,q,Ma D]);have m:cB (∀W,xB wr W->cF 296 #[qA (cA (eB b o)) k g,pA c[k].N] W (sA eA)):=by
      show ∀_,_;have:=p.o;rw[D]at this;exact this
     clear q p D;generalize c[k].N=r at *;generalize c[k].V=C at *;have Q:∀x:kC (wr.alloc (xA #[pA r,pA C] 175)),x.w'.cell? (eB wr.1.size 0)=cA (pA r):=kC.cells (by simp);have z:=kC.there (wr.alloc (xA #[pA r,pA C] 175));go_wp2_with fail;refine zB (by kernel_rfl) (by kernel_rfl) ?_;repeat (go_big_quiet_step (first|(go_at_call 296;exact oC (m.o _ (aC bC (kC.h _))))))
     refine wpQuiet_nil ?_;rintro _ ⟨x,rfl⟩;have P:cB _:=aC (aC d bC) x.h;clear Q z;generalize x.w'=W at *;clear x;go_wp2;go_ret2;exact⟨ta (by rw[E.o]) (by rw[E.o]),P.o⟩
    .have E:cB (pF [] c 0=pF (c.take (k+1)) (c.drop (k+1)) (k+1)):=by show _=_;rw[s.o,q,Ja D]
     have m:cB (∀W,xB wr W->cF 296 #[qA (cA (eB b o)) k g,pA c[k].N] W (sA dA)):=by
      show ∀_,_;have h:((c.take k).any λx=>rR x c[k])=dA:=by simpa using D
      have:=p.o;rw[h]at this;exact this
     clear q p D;generalize c[k].N=r at *;generalize c[k].V=C at *;have Q:∀x:kC (wr.alloc (xA #[pA r,pA C] 175)),x.w'.cell? (eB wr.1.size 0)=cA (pA r):=kC.cells (by simp);have z:=kC.there (wr.alloc (xA #[pA r,pA C] 175));go_wp2_with fail;refine zB (by kernel_rfl) (by kernel_rfl) ?_;repeat (go_big_quiet_step (first|(go_at_call 296;exact oC (m.o _ (aC bC (kC.h _))))))
     refine wpQuiet_nil ?_;rintro _ ⟨x,rfl⟩;have P:cB _:=aC (aC d bC) x.h;clear Q z;generalize x.w'=W at *;clear x;go_wp2;exact⟨⟨k+1,by omega,by go_num,E.o,P.o⟩,by simp[intOf];omega⟩
   .have O:cB (pF [] c 0=none):=by
     show _=_;rw[s.o,Yb (by omega)];rfl
    have U:cB (cF 257 #[qA a (zA c) g] wr (pA (jL c))):=FH a g c wr (L.o.z d) t;have E:=UO v.o X.o O.o;have G:cB (ByteArray.empty.toList=[]):=by show _=_;rw[ByteArray.toList_eq];rfl
    generalize jL c=M at *;by_cases u:(M.toList==ByteArray.empty.toList)=eA
    .have F:cB (fI c=(46,0)):=by show _=_;rw[E,Ma u]
     have S:M.toList.isEmpty=eA:=by rw[G.o]at u;simpa using u
     clear u E;go_wp2_with fail;apply jC U.o;intro T f;have l:cB _:=aC d f;clear f;go_wp2;go_ret2;exact⟨ta (by rw[F.o]) (by rw[F.o]),l.o⟩
    have F:cB (fI c=(0,0)):=by show _=_;rw[E,Ja u]
    have S:M.toList.isEmpty=dA:=by rw[G.o]at u;simpa using u
    clear u E;go_wp2_with fail;apply jC U.o;intro T f;have l:cB _:=aC d f;clear f;go_wp2;go_ret2;exact⟨ta (by rw[F.o]) (by rw[F.o]),l.o⟩
section
open Go.Sort
def cfL(x y:cC):Int:=lY x.N y.N
def ltL(x y:cC):ltOf cfL x y=lP x y:=by
 unfold ltOf cfL lY lP;split
 .rename_i h;rw[h];rfl
 rename_i h;have a:Op.bytesLess x.N.toList y.N.toList=dA:=by simpa using h
 rw[a];split<;>rfl
def aOr:SWO (ltOf cfL) where
 irrefl x:=by rw[ltL];exact gG _
 trans x y z h1 h2:=by rw[ltL]at *;exact sJ _ _ _ h1 h2
 ntrans x y z h1 h2:=by rw[ltL]at *;exact PM (x:=z) (y:=y) (z:=x) h2 h1
def qc(x y:cC)(W:fA):iA prog 264 #[.agg #[pA x.N,pA x.V],.agg #[pA y.N,pA y.V]] W λe c=>e=vA (aB (cfL x y))/\∃q b,c=grow (W.drewN q) b:=by
 have a:=λd=>JQ x.N y.N d;unfold cfL;generalize lY x.N y.N=r at a |-
 go_enter func264,ntmps264;go_wp2_with(go_at_call 178;apply jC (a _);rintro c rfl);go_ret;exact⟨rfl,0,_,by rw[alloc_eq_grow,alloc_eq_grow,grow_grow];rfl⟩
section
variable [Inhabited cC]
theorem ch(c b a:Nat)(w:fA):CmpLays prog 264 #[] lU 2 cfL c b a w:=
 λ_ _ _ _ x y=>qc x y _
theorem qe{w:fA}{g n:Nat}{a:Array jA}{t:kA}(h:jB w g a t)(d:Array cC)(e:Array Obj):∃b,jB (sortWorldK lU 2 w g 0 n d e) g b t:=by
 have c:=bB h;refine⟨putCells id 0 (flatK lU 2 d) a,?_⟩;unfold jB sortWorldK putRowK putRow mapBlock;rw[heap_grow_old _ _ (by simpa[ahead]using c)];show(Array.modify w.heap g _)[g]?=_;rw[Array.getElem?_modify,Ma rfl];unfold jB at h;rw[h];rfl
theorem qd{w:fA}{g n B:Nat}(b:B<=g)(c:g<w.1.size)(d:Array cC)(a:Array Obj):Below B w (sortWorldK lU 2 w g 0 n d a):=by
 refine⟨rfl,rfl,rfl,?_,λk e=>?_⟩;simp[sortWorldK,putRowK,putRow,mapBlock];unfold sortWorldK putRowK putRow mapBlock;rw[heap_grow_old _ _ (by simp;omega)];show(Array.modify w.heap g _)[k]?=_;rw[Array.getElem?_modify,Ja (by omega)]
theorem ec{w:fA}{g:Nat}{c:Array jA}{t:kA}{b:List cC}(h:jB w g c t)(k:mP w g 0 b):HoldsK lU 2 w g 0 b.toArray:=by
 intro j d;rw[size_flatK]at d;have a:j / 2<zA b:=by simp at d;omega
 refine⟨?_,h.free _⟩;rw[get_flatK _ _ _ _ d];have e:b.toArray[j / 2]! = b[j / 2]:=by simp[getElem!_pos,a]
 rw[e];have i:=k (j / 2) a;rcases Nat.mod_two_eq_zero_or_one j with f|f;rw[f];have:=i.1;rw[show 0+j / 2*2=0+j by omega]at this;rw[this];rfl;rw[f];have:=i.2;rw[show 0+j / 2*2+1=0+j by omega]at this;rw[this];rfl
theorem aHp{w:fA}{g B:Nat}{b:Array jA}{t:kA}{d:Array cC}(h:jB w g b t)(l:B<=g)(k:HoldsK lU 2 w g 0 d):zD w B (vB g) d.toList:=by
 refine La ⟨g,0,b,t,rfl,l,h,λi m=>?_⟩;have a:i<d.size:=by simpa using m
 have f:=(k.cell (c:=0) a (by omega)).1;have j:=(k.cell (c:=1) a (by omega)).1;have e:d[i]! = d[i]:=getElem!_pos d i a;rw[e]at f j;rw[Mg];exact⟨f,j⟩
theorem jo{d:Array cC}(h:SortedIn (ltOf cfL) 0 d.size d):d.toList.Pairwise Le:=by
 rw[Qe];intro i j e c b;have a:j<d.size:=by simpa using c
 have:=h i j (Oa _) b a;rw[ltL,getElem!_pos d i (by omega),getElem!_pos d j a]at this;rw[Mg,Mg];exact this
theorem ZN(g h:Nat)(a:List cC)(w:fA)(B:Nat)(s:B<=g){l:Array jA}{t:kA}(k:jB w g l t)(u:mP w g 0 a)(y:zA a<=2000000):
 iA prog 263 #[qA (vB g) (zA a) h,.func (.func 264) #[] #[]] w λe q=>
  e=vA (yA #[])/\∃f,f.Perm a/\f.Pairwise Le/\zD q B (vB g) f/\Below B w q:=by
 have D:∀args w,(callFunc 264 args).run prog w=.ok (.enter 264 args) w:=enters_of func264 (by kernel_rfl) rfl;have o:=bB k;have c:=AnyQ.slices_SortFunc sortL 2 isAgg175 sizeOf175 lU (λ_=>rfl) (λx v z=>by simp[lU]at z;rcases z with rfl|rfl<;>rfl) cfL aOr 264 #[] g 0 h a.toArray w D (ch g 0 _ w) (ec k u) o (by simp;omega);change iA prog 263 _ _ _ at c;apply jC c;rintro q ⟨b,n,p,F,G,rfl⟩;obtain⟨d,_,i⟩:=F;obtain⟨r,m⟩:=qe (n:=n) k b p;have E:HoldsK lU 2 (sortWorldK lU 2 w g 0 n b p) g 0 b:=
  holdsK_grow lU 2 _ _ _ _ _ (by simpa[putRowK,putRow,mapBlock,ahead]using o) (holdsK_putRowK lU 2 _ _ _ a.toArray b (holdsK_ahead lU 2 _ _ _ _ _ (ec k u)) d)
 have j:b.size=zA a:=by simpa using d
 refine⟨rfl,b.toList,?_,jo (by rw[j];simpa using G),aHp m s E,qd s o b p⟩;have A:b.extract 0 a.toArray.size=b:=by rw[<-d];simp
 have C:a.toArray.extract 0 a.toArray.size=a.toArray:=by simp
 rw[A,C]at i;exact i
end
end
def JX(b:List cC):((fI b).1=0->wB b=(mG [] b,0,0)/\iU b/\vR b=eA/\(fI b).2=0/\¬16<zA b)/\((fI b).1≠0->wB b=([],(fI b).1,(fI b).2)):=by
 by_cases a:16<zA b
 .rw[OI a,BQ a];exact⟨λh=>absurd h (by simp),λ_=>rfl⟩
 cases hb:fD b 0 with
 |some e=>
  obtain⟨c,i⟩:=e;rw[UN a hb,qZ a hb];refine⟨λh=>?_,λ_=>rfl⟩;exfalso;have:∀(l:List cC)(j:Nat),fD l j=cA (c,i)->c≠0:=by
   intro l;induction l with
   |nil=>intro j h;simp[fD]at h
   |cons x r g=>
    intro j h;rw[fD]at h;split at h;exact g _ h
    rename_i f;simp only[Qa,Dc]at h;rw[<-h.1];exact f
  exact this b 0 hb h
 |none=>
  cases ht:pF [] b 0 with
  |some i=>
   rw[JY a hb ht,iY a hb ht];exact⟨λh=>absurd h (by simp),λ_=>rfl⟩
  |none=>
   have d:=sk b ht;rw[UO a hb ht,gm b d];cases hm:vR b with
   |true=>
    rw[NK a hb ht hm];exact⟨λ_=>⟨rfl,d,rfl,rfl,a⟩,λh=>absurd rfl h⟩
   |false=>
    rw[IA a hb ht hm];exact⟨λh=>absurd h (by simp),λ_=>rfl⟩
def VB{b:List cC}(h:vR b=eA):0<zA (uL b):=by
 unfold vR at h;rw[Zd]at h;obtain⟨x,c,a⟩:=h;rw[Sa]at a;exact List.length_pos_of_mem (De.2 ⟨c,a.1⟩)
def AX(a:nC)(m:Nat)(c:List cC)(w:fA)(h:qD w a c)(G:WR c)(X:zA c<=2000000)(V:zA c<=m)(I:kH w):
 iA prog 216 #[qA a (zA c) m] w λe D=>∃a' n,e=vA (yA #[.slice a' (zA (wB c).1) n,aB ((wB c).2.1:Nat),aB ((wB c).2.2:Nat)])/\zA (wB c).1<=n/\zD D w.1.size a' (wB c).1/\xB w D:=by
 have y:cB (cF 262 #[qA a (zA c) m] w (yA #[aB ((fI c).1:Nat),aB ((fI c).2:Nat)])):=dq a m c w h G X V I;have HF:cB (qD w a c):=h;obtain⟨L,M⟩:=JX c;clear h G I;by_cases S:(fI c).1=0
 .obtain ⟨r,Z,H,h2,h16⟩:=L S;have F:cB (cF 262 #[qA a (zA c) m] w (yA #[aB 0,aB 0])):=by
   show iA _ _ _ _ _;have:=y.o;rw[S,h2]at this;exact this
  have j:cB (wB c=(mG [] c,0,0)/\iU c/\0<zA (uL c)):=⟨r,Z,VB H⟩
  obtain⟨ti,h,J,O,W⟩:=EX;have HI:cB _:=h;clear L M S r Z H h2 y h;go_enter func216,ntmps216;go_wp2_with fail;apply jC F.o;intro w1 p;have K:cB _:=p;clear p F;go_wp2;go_loopw [7,9,21] (λh _ i wr=>∃(k:Nat)(d:List cC)(P:nC)(u:Nat),k<=zA c/\zA d<=k/\cB (d=uL (c.take k))/\i=aB k/\h=qA P (zA d) u/\cB (wr.ownsRow w.1.size 175 2 (qA P (zA d) u) (zA d) (rC d))/\xB w wr) (λ_ _ i _=>zA c-(intOf i).toNat)
  case atStart=>exact⟨0,[],none,0,Oa _,Oa _,rfl,rfl,rfl,⟨rfl,Ca ⟨rfl,rfl⟩⟩,K.o⟩
  case round=>
   obtain⟨k,d,P,u,h,h,HY,rfl,rfl,f,l⟩:=hrel;by_cases Y:k<zA c
   .obtain ⟨b,o,rfl,hb,c0,c1⟩:=(HF.o.z l).at Y;have G:=oa c k Y;have I:=fo c[k];have h:=l.size;by_cases s:sS c[k]=eA
    .have E:cB (d=uL (c.take (k+1))):=by show _=_;rw[G,Ma s,Cd];exact HY.o
     have Y:c[k].V.toList.isEmpty=eA:=by rw[<-I];exact s
     clear G s I;generalize c[k].N=h at *;generalize c[k].V=m at *;go_wp2;exact⟨⟨k+1,d,P,u,by omega,by omega,E.o,by go_num,rfl,hC f.o bC,aC l bC⟩,by simp[intOf];omega⟩
    have E:cB (d++[c[k]]=uL (c.take (k+1))):=by show _=_;rw[G,Ja s,HY.o]
    have Y:c[k].V.toList.isEmpty=dA:=by rw[<-I];simpa using s
    have Y:cB (rC [c[k]]=[pA c[k].N,pA c[k].V]):=rfl;clear G s I;generalize c[k]=G at *;generalize G.N=h at *;generalize G.V=m at *;have HW:cB (∀x,xB wr ((wr.alloc (xA #[pA h,pA m] 175)).alloc x)):=λx=>aC bC bC;go_wp2_with(at_builtin;refine wpList_append_lies _ rfl _ _ _ rfl w.1.size 175 ti _ 2 32 underlying90 HI.o J O W rfl (by omega) (qA P (zA d) u) (zA d) (rC d) rfl (by exact hC f.o (HW.o _)) (eB (wr.1.size+1) 0) 1 1 [pA h,pA m] rfl rfl (by exact yt _ _ #[pA h,pA m] _) (by simp[jA.oneCell']) (by omega) (by simp[maxLen];omega) (by omega) (by simp;omega) (wr.1.size+1+1) (by simp) ?_;intro W R I t A I I);have I:=(aC l (HW.o _)).grown A (by simp;omega) (λq J=>uH f.o q J);have O:zA (d++[G])=zA d+1:=by simp
    have J:rC d++[pA h,pA m]=rC (d++[G]):=by rw[qF,Y.o]
    rw[J,<-O]at t;exact⟨⟨k+1,d++[G],vB W,R,by omega,by rw[O];omega,E.o,by go_num,by rw[O],t,I⟩,by simp[intOf];omega⟩
   have Q:cB (d=uL c):=by show _=_;rw[HY.o,Ra (by omega)]
   have J:0<zA d:=by rw[Q.o];exact j.o.2.2
   have G:=eK f.o;obtain⟨g,z,m,N,W,T,I⟩:∃g z,P=vB g/\w.1.size<=g/\jB wr g z 175/\mP wr g 0 d/\zA d<=u:=by
    obtain⟨_,hl⟩|⟨g,n,z,s,N,hg,O,_⟩:=f.o.2;omega;simp only[jA.slice.injEq]at s;obtain h|⟨Y,Y,Y,t',Y,_,_,hl⟩:=G;rw[h]at J;exact absurd J (by simp);rw[s.1]at Y;simp only[Qa,Addr.mk.injEq,Cc]at Y;obtain⟨rfl,rfl⟩:=Y;exact⟨g,z,s.1,N,hg,hl,by rw[s.2.2];exact O⟩
   have h:cB (iA prog 263 #[qA (vB g) (zA d) u,.func (.func 264) #[] #[]] wr λe D=>
    e=vA (yA #[])/\∃B,B.Perm d/\B.Pairwise Le/\zD D w.1.size (vB g) B/\Below w.1.size wr D):=haveI:=aHn;ZN g u d wr w.1.size N W T (by omega)
   subst m;clear f G T W;go_wp2_with fail;apply jC h.o;rintro w2 ⟨B,h,hs,O,U⟩;have m:=WG j.o.2.1 (by rw[<-Q.o];exact h) hs;have W:cB (zA d=zA (mG [] c)):=by show _=_;rw[<-m,h.length_eq]
   have G:cB (zD w2 w.1.size (vB g) (mG [] c)):=by rw[<-m];exact O
   have J:cB _:=l.trans U;clear h hs O U m;go_wp2;refine bodyPost_ret (v:=yA #[qA (vB g) (zA d) u,aB 0,aB 0]) (by simp[results,results216,go_sem]) rfl ⟨vB g,u,?_,?_,?_,J.o⟩
   .rw[j.o.1,W.o];rfl
   .rw[j.o.1,<-W.o];exact I
   rw[j.o.1];exact G.o
 .have r:=M S;have j:cB _:=r;have h:(((fI c).1:Int) != 0)=eA:=by simp;omega
  clear L M S r;generalize (fI c).1=C at *;generalize (fI c).2=I at *;go_enter func216,ntmps216;go_wp2_with fail;apply jC y.o;intro w1 p;have K:cB _:=p;clear p y;go_wp2;refine bodyPost_ret (v:=yA #[qA none 0 0,aB C,aB I]) (by simp[results,results216,go_sem]) rfl ⟨none,0,?_,?_,?_,K.o⟩
  .rw[j.o];rfl
  .rw[j.o];exact Ia _
  rw[j.o];exact Ca rfl
def lT.tail{f:iB}{r:List iB}(h:lT (f::r)):lT r:=λi j a b=>by
 have:=h (i+1) (j+1) (by omega) (by simp;omega);simpa using this
def lT.head{f:iB}{r:List iB}(h:lT (f::r))(j:Nat)(a:j<zA r):Op.bytesLess f.N.toList r[j].N.toList=eA:=by
 have:=h 0 (j+1) (by omega) (by simp;omega);simpa using this
theorem iJ:∀{c:List iB}(t:pB),lT c->nT c t (dC t c)
 |[],t,_=>⟨Ia _,λj h=>absurd h (by simp),λj h=>absurd h (by simp)⟩
 |f::r,t,g=>by
  have e:=iJ t g.tail;unfold dC;by_cases b:Op.bytesLess f.N.toList t.toList=eA
  .rw[Ma b];refine⟨by simp;exact e.1,λj a k=>?_,λj a i=>?_⟩
   .cases j with
    |zero=>exact b
    |succ j=>simpa using e.2.1 j (by simpa using a) (by omega)
   cases j with
   |zero=>omega
   |succ j=>simpa using e.2.2 j (by simpa using a) (by omega)
  rw[Ja b];refine⟨Oa _,λj _ h=>absurd h (by omega),λj a _=>?_⟩;cases j with
  |zero=>simpa using b
  |succ j=>
   have d:j<zA r:=by simpa using a
   show Op.bytesLess r[j].N.toList t.toList=dA;rw[Yc];intro h;exact b (sJ _ _ _ (g.head j d) h)
def rT(a:nC)(d:Nat)(b:List iB)(t:pB)(w:fA)(j:uB w a b)(c:lT b)(f:zA b<=1048576):
 cF 116 #[qA a (zA b) d,pA t] w (yA #[aB (dC t b),sA (yH b t (dC t b))]):=by
 refine(iW a d b t w j c f).mono ?_;rintro e g ⟨i,k,rfl,h⟩;obtain rfl:=k.uniq (iJ t c);exact⟨rfl,h⟩
theorem wZ{a:List iB}{t:pB}{i:Nat}(h:yH a t i=eA):∃b:i<zA a,a[i].N=t:=by grind [yH,toList_inj]
def vC(a:List iB)(t:pB):List iB:=a.filter λf=>!(f.N.toList==t.toList)
def nG:List iB->iB->List iB
 |[],f=>[f]
 |g::r,f=>if Op.bytesLess f.N.toList g.N.toList=eA then f::g::r else g::nG r f
def GL{a:List iB}{t:pB}(h:∀j(b:j<zA a),a[j].N≠t):vC a t=a:=by
 unfold vC;rw[Jc];intro f c;obtain⟨j,b,rfl⟩:=Ib c;simp only[Bool.not_eq_true',Ug,ne_eq];exact λe=>h j b (toList_inj e)
theorem qQ:∀{a:List iB}{i:Nat}(_:lT a)(g:i<zA a),vC a a[i].N=a.eraseIdx i
 |f::r,0,c,_=>by
  have e:vC (f::r) f.N=vC r f.N:=by simp[vC]
  show vC (f::r) f.N=r;rw[e];exact GL λj h e=>by
   have:=c.head j h;rw[e,gG]at this;exact absurd this (by simp)
 |f::r,i+1,c,g=>by
  have b:i<zA r:=by simpa using g
  have k:=qQ c.tail b;have d:(f.N.toList==(r[i]).N.toList)=dA:=by
   rw[Ug];intro e;have:=c.head i b;rw[e,gG]at this;exact absurd this (by simp)
  show vC (f::r) r[i].N=f::r.eraseIdx i;rw[<-k];simp[vC,d]
def lT.erase{a:List iB}(h:lT a)(i:Nat):lT (a.eraseIdx i):=by grind [lT]
def II{a:List iB}{t:pB}(f:lT a)(g:yH a t (dC t a)=dA):∀j(b:j<zA a),a[j].N≠t:=by
 intro j b e;have i:=iJ t f;rcases Nat.lt_trichotomy j (dC t a) with h|h|h;have:=i.2.1 j b h;rw[e,gG]at this;exact absurd this (by simp)
 .have:yH a t j=eA:=by simp[yH,Va b,e]
  rw[<-h,this]at g;exact absurd g (by simp)
 have c:=i.2.2 (dC t a) (by omega) (Ia _);have d:=f (dC t a) j h b;rw[e]at d;rw[d]at c;exact absurd c (by simp)
theorem IS:∀{a:List iB}(f:iB),lT a->(∀j(k:j<zA a),a[j].N≠f.N)->nG a f=mM a (dC f.N a) f
 |[],f,_,_=>rfl
 |g::r,f,i,h=>by
  have l:=IS f i.tail (λj k=>by have:=h (j+1) (by simp;omega);simpa using this);unfold nG dC;by_cases b:Op.bytesLess g.N.toList f.N.toList=eA
  .rw[Ja (by rw[uP b];simp),Ma b,l];simp[mM]
  have d:g.N.toList≠f.N.toList:=λe=>h 0 (by simp) (toList_inj e);have c:=wL _ _ (by simpa using b) d;rw[Ma c,Ja b];rfl
theorem xo{a:List iB}{i:Nat}(b:i<zA a)(f:iB):mM (a.eraseIdx i) i f=a.set i f:=by
 rw[mM,List.eraseIdx_eq_take_drop_succ,List.set_eq_take_append_cons_drop,Ma b];have c:zA (a.take i)=i:=by rw[Hb];omega
 rw[List.take_append_of_le_length (by omega),Ra (by omega),List.drop_append_of_le_length (by omega),Ie (by omega),Mb]
theorem zg{b:List iB}{i:Nat}(c:lT b)(d:i<zA b):dC b[i].N (b.eraseIdx i)=i:=by
 refine(iJ _ (c.erase i)).uniq ⟨by rw[Ad,Ma d];omega,λj e a=>?_,λj e f=>?_⟩;rw[List.getElem_eraseIdx,dif_pos a];exact c j i a d;rw[List.getElem_eraseIdx,dif_neg (by omega)];rw[Ad,Ma d]at e;exact uP (c i (j+1) (by omega) (by omega))
def yG(a:List iB)(f:iB):List iB:=nG (vC a f.N) f
def wV{a:List iB}{f:iB}(b:lT a)(d:yH a f.N (dC f.N a)=dA):yG a f=mM a (dC f.N a) f:=by
 have c:=II b d;unfold yG;rw[GL c];exact IS f b c
theorem GK{a:List iB}{f:iB}{i:Nat}(b:lT a)(d:i<zA a)(c:a[i].N=f.N):yG a f=a.set i f:=by grind [lT,yG,qQ,gG,IS,zg,xo]
def dz{W w d:fA}{B:Nat}{e:kA}{a:Nat}{v:jA}{n:Nat}{l:List jA}(h:w.ownsRow B e a v n l)(j:Below B W w)(c:B<=w.1.size)(b:w.grownBy d v.ownBlock):Below B W d:=
 j.trans ((kE.grown (S:=λk=>v.ownBlock=cA k) b (λ_ h=>h)).below (λg b=>by
  obtain⟨rfl,_⟩|⟨m,f,i,rfl,o,_⟩:=h.2;simp[jA.ownBlock]at b;simp[jA.ownBlock]at b;omega) c)
def aDx(W:fA)(x:Obj)(cs:Array jA)(t:kA):∀j u,cs.toList[j]?=cA u->((W.alloc x).alloc (xA cs t)).cell? (((eB (W.1.size+1) 0):Addr).add j)=cA u:=
 fA.news_of_block (fr:=(0,0)) (by have h:=heap_alloc_new (W.alloc x) (xA cs t);simpa using h)
def ax(l:List iB)(f:iB)(t:pB):vC (l++[f]) t=vC l t++(if (f.N.toList==t.toList)=eA then [] else [f]):=by grind [vC]
def kT(l:List iB)(t:pB):zA (vC l t)<=zA l:=Pc _ _
def AZ(a:nC)(B:Nat)(c:List iB)(t:pB)(w:fA)(H:uB w a c)(I:zA c<=1048576):
 iA prog 164 #[qA a (zA c) B,pA t] w λe K=>∃v,e=vA v/\K.ownsRow w.1.size 144 3 v (zA (vC c t)) (flat (vC c t))/\xB w K:=by
 have L:cB (uB w a c):=H;clear H;obtain⟨Q,s,C,D,E⟩:=sL;have M:cB _:=s;clear s;go_enter func164,ntmps164;go_wp2;go_loopw [5,7,11] (λo _ i wr=>∃(j:Nat)(m:nC)(n p:Nat),j<=zA c/\i=aB j/\o=qA m n p/\n=zA (vC (c.take j) t)/\wr.ownsRow w.1.size 144 3 (qA m n p) n (flat (vC (c.take j) t))/\xB w wr) (λ_ _ i _=>zA c-(intOf i).toNat)
 case atStart=>exact⟨0,_,0,0,Oa _,rfl,rfl,rfl,⟨rfl,La ⟨w.1.size,0,#[],rfl,Ia _,heap_alloc_new _ _,Ia _,Oa _,rfl,rfl⟩⟩,bC⟩
 case round=>
  obtain⟨j,m,n,p,W,rfl,rfl,r,k,d⟩:=hrel;have u:cB (wr.ownsRow w.1.size 144 3 (qA m n p) n (flat (vC (c.take j) t))):=k;have y:cB _:=r;have P:n<=1048576:=by have:=kT (c.take j) t;rw[Hb]at this;omega
  clear k r;by_cases q:j<zA c
  .obtain ⟨b,o,rfl,V,R,S,T⟩:=(L.o.z d).at q;have z:cB (vC (c.take (j+1)) t=vC (c.take j) t++(if (c[j].N.toList==t.toList)=eA then [] else [c[j]])):=by
    show _=_;rw[Pa q,ax]
   by_cases x:(c[j].N.toList==t.toList)=eA
   .have f:cB (vC (c.take (j+1)) t=vC (c.take j) t):=by show _=_;rw[z.o,Ma x];simp
    go_wp2;exact⟨⟨j+1,m,n,p,by omega,by go_num,rfl,by rw[f.o];exact y.o,by rw[f.o];exact hC u.o bC,aC d bC⟩,by simp[intOf];omega⟩
   have O:(c[j].N.toList==t.toList)=dA:=by simpa using x
   have f:cB (vC (c.take (j+1)) t=vC (c.take j) t++[c[j]]):=by show _=_;rw[z.o,Ja x]
   have A:cB (xB wr ((wr.alloc (xA #[pA c[j].N,pA c[j].data,aB c[j].Y] 144)).alloc (xA #[pA c[j].N,pA c[j].data,aB c[j].Y] 144))):=aC bC bC;clear x z;go_wp2_with(at_builtin;refine wpList_append_lies _ rfl _ _ _ rfl w.1.size 144 Q _ 3 40 underlying33 M.o C D E rfl (by omega) (qA m n p) n (flat (vC (c.take j) t)) rfl (by exact hC u.o A.o) (eB (wr.1.size+1) 0) 1 1 [pA c[j].N,pA c[j].data,aB c[j].Y] rfl rfl (by exact aDx _ _ #[pA c[j].N,pA c[j].data,aB c[j].Y] _) (by simp[jA.oneCell']) (by omega) (by simp[maxLen];omega) (by omega) (by have:=d.size;simp;omega) (wr.1.size+1+1) (by simp) ?_;intro U F X l g G J);refine⟨⟨j+1,_,n+1,_,by omega,by go_num,rfl,by rw[f.o,Kb,<-y.o];rfl,?_,?_⟩,by simp[intOf];omega⟩
   .rw[f.o,flat_append,sY];exact l
   exact dz (hC u.o A.o) (aC d A.o) (by have:=d.size;simp;omega) g
  .go_wp2;go_ret;have N:j=zA c:=by omega
   have h:=u.o;have r:=y.o;rw[N,Rb]at h r;subst r;exact⟨_,rfl,h,d⟩
def yT:∀{l:List iB}{f:iB}(r:List iB),(l.any λg=>Op.bytesLess f.N.toList g.N.toList)=eA->nG (l++r) f=nG l f++r
 |[],_,_,h=>by simp at h
 |g::l,f,r,h=>by
  show nG (g::(l++r)) f=_;unfold nG;by_cases a:Op.bytesLess f.N.toList g.N.toList=eA
  .rw[Ma a,Ma a];rfl
  rw[Ja a,Ja a,yT r (by simpa[a]using h)];rfl
def kR:∀{l:List iB}{f:iB}(r:List iB),(l.any λg=>Op.bytesLess f.N.toList g.N.toList)=dA->nG (l++r) f=l++nG r f
 |[],_,_,_=>rfl
 |g::l,f,r,h=>by
  simp only[List.any_cons,Bool.or_eq_false_iff]at h;show nG (g::(l++r)) f=_;rw[nG,Ja (by rw[h.1];simp),kR r h.2];rfl
def rH(a:List iB)(f:iB)(j:Nat):Bool:=(a.take j).any λg=>Op.bytesLess f.N.toList g.N.toList
def aM(a:List iB)(f:iB)(j:Nat):List iB:=if rH a f j=eA then nG (a.take j) f else a.take j
def uM{a:List iB}{f:iB}{j:Nat}(h:j<zA a):rH a f (j+1)=(rH a f j||Op.bytesLess f.N.toList a[j].N.toList):=by
 unfold rH;rw[Pa h,Tf];simp only[List.any_cons,List.any_nil,Bool.or_false]
def il{a:List iB}{f:iB}{j:Nat}(h:j<zA a)(b:rH a f j=eA):aM a f (j+1)=aM a f j++[a[j]]:=by
 unfold aM;rw[Ma b,Ma (by rw[uM h,b];rfl),Pa h];exact yT _ b
def aEl{a:List iB}{f:iB}{j:Nat}(h:j<zA a)(c:rH a f j=dA)(b:Op.bytesLess f.N.toList a[j].N.toList=eA):aM a f (j+1)=aM a f j++[f]++[a[j]]:=by
 have d:rH a f (j+1)=eA:=by rw[uM h,b];simp
 have e:aM a f (j+1)=nG (a.take (j+1)) f:=Ma d;have g:aM a f j=a.take j:=Ja (by rw[c];simp);rw[e,g,Pa h,kR _ c];simp[nG,b]
def aEk{a:List iB}{f:iB}{j:Nat}(h:j<zA a)(b:rH a f j=dA)(g:Op.bytesLess f.N.toList a[j].N.toList=dA):aM a f (j+1)=aM a f j++[a[j]]:=by
 have c:rH a f (j+1)=dA:=by rw[uM h,b,g];rfl
 have d:aM a f (j+1)=a.take (j+1):=Ja (by rw[c];simp);have e:aM a f j=a.take j:=Ja (by rw[b];simp);rw[d,e,Pa h]
def aEj{a:List iB}{f:iB}(b:rH a f (zA a)=dA):nG a f=aM a f (zA a)++[f]:=by
 unfold aM;rw[Ja (by rw[b];simp)];unfold rH at b;rw[Rb]at b |-
 have:=kR (f:=f) [] b;rw[Cd]at this;rw[this];rfl
def aEi{a:List iB}{f:iB}(b:rH a f (zA a)=eA):nG a f=aM a f (zA a):=by
 unfold aM;rw[Ma b,Rb]
def ik(b:List iB)(f:iB)(j:Nat):zA (aM b f j)<=j+1:=by
 have a:∀(l:List iB),zA (nG l f)=zA l+1:=λl=>by
  induction l with
  |nil=>rfl
  |cons g r c=>unfold nG;split<;>simp[c]
 unfold aM;split;rw[a,Hb];omega;rw[Hb];omega
def vF:List pB->pB
 |[]=>lA
 |x::r=>x++vF r
def oG:∀(a b:List pB),vF (a++b)=vF a++vF b
 |[],b=>by simp[vF]
 |x::r,b=>by
  show x++vF (r++b)=x++vF r++vF b;rw[oG r b,Wa]
def aBm(a:List pB):(vF a).data.toList=(a.map (·.data.toList)).flatten:=by
 induction a with
 |nil=>rfl
 |cons x r b=>simp[vF,b]
def ft(a:List pB):Lib.join (a.map (·.data.toList)) ByteArray.empty.data.toList=(vF a).data.toList:=by
 have e:ByteArray.empty.data.toList=[]:=rfl;rw[aBm,e];cases a with
 |nil=>rfl
 |cons x r=>
  rw[Fc,Lib.join_cons,Lib.joinTail];simp;rfl
def aGc(a:List pB):(⟨(Lib.join (a.map (·.data.toList)) ByteArray.empty.data.toList).toArray⟩:pB)=vF a:=by
 rw[ft]
def iG:List pB->Nat
 |[]=>0
 |x::r=>x.size+iG r
def IC:∀(a:List pB),(vF a).size=iG a
 |[]=>rfl
 |x::r=>by rw[vF,Ka,IC r,iG]
def wH:∀(a b:List pB),iG (a++b)=iG a+iG b
 |[],b=>by simp[iG]
 |x::r,b=>by show x.size+iG (r++b)=x.size+iG r+iG b;rw[wH r b];omega
def CG(n:Nat)(w:fA):cF 23 #[aB (n:Nat)] w (pA (tB 1 (n:Nat))):=by
 have d:cB (∀W,cF 74 #[aB (n:Nat),aB 1] W (pA (tB 1 (n:Nat)))):=λW=>oH 1 (n:Nat) W (by omega);generalize tB 1 (n:Nat)=N at *;go_enter func23,ntmps23;go_wp2_with fail;apply jC (d.o _);intro f a;have c:cB _:=a;clear a;go_wp2;go_ret;exact⟨rfl,c.o⟩
def nI(g n b:Nat)(a:List pB)(w:fA)(p:n=zA a)(i:∀(j:Nat) x,a[j]?=cA x->w.cell? (eB g (0+j))=cA (pA x))(o:g<w.1.size)(d:zA a<=b)(q:zA a<=1000000000)(k:iG a<=140737488355328):
 cF 154 #[qA (vB g) n b] w (pA (vF a)):=by
 subst p;have m:cB (cF 220 #[qA (vB g) (zA a) b,pA lA] w (pA (vF a))):=by
  have h:=strings_Join g 0 b a lA w i o (by omega) d (by rw[ft,<-Lib.size_eq,IC];exact k);rw[aGc]at h;exact h
 clear i k;generalize vF a=C at *;generalize zA a=n at *;go_enter func154,ntmps154;go_wp2_with fail;apply jC m.o;intro r c;have l:cB _:=c;clear c;go_wp2;go_ret;exact⟨rfl,l.o⟩
def WM{W:fA}{x y:pB}{t:kA}:∀(j:Nat) z,[x,y][j]?=cA z->(W.alloc (xA #[pA x,pA y] t)).cell? (eB W.1.size (0+j))=cA (pA z):=by
 intro j z h;rw[cell_of_row _ W.1.size _ _ _ _ (heap_alloc_new _ _),Ya];match j,h with
 |0,h=>simp at h;simp[h]
 |1,h=>simp at h;simp[h]
 |j+2,h=>simp at h
def pS(s:pB)(w:fA)(j:s.size<=1000000000):cF 213 #[pA s] w (pA (gN s)):=by
 have i:cB _:=λW=>CG s.size W;have k:=nB 1 (s.size:Nat);unfold gN;generalize tB 1 (s.size:Nat)=N at *;have g:cB (∀W:fA,cF 154 #[qA (vB W.1.size) 2 2] (W.alloc (xA #[pA N,pA s] 9)) (pA (N++s))):=λW=>by
  have h:=nI W.1.size 2 2 [N,s] (W.alloc (xA #[pA N,pA s] 9)) rfl WM (by simp) (by simp) (by simp) (by simp[iG];omega);have e:vF [N,s]=N++s:=by simp[vF]
  rw[e]at h;exact h
 go_enter func213,ntmps213;go_wp2_with fail;apply jC (i.o _);intro l a;have f:cB _:=a;clear a;go_wp2_with fail;apply jC (g.o _);intro m b;have c:cB _:=aC (aC f.o bC) b;clear b;go_wp2;go_ret;exact⟨rfl,c.o⟩
def rL(s:pB)(w:fA)(j:s.size<=1000000000):cF 162 #[pA s] w (pA (dG s)):=by
 have i:cB (∀W,cF 74 #[aB (s.size:Nat),aB 2] W (pA (tB 2 (s.size:Nat)))):=λW=>oH 2 (s.size:Nat) W (by omega);have k:=nB 2 (s.size:Nat);unfold dG;generalize tB 2 (s.size:Nat)=N at *;have g:cB (∀W:fA,cF 154 #[qA (vB W.1.size) 2 2] (W.alloc (xA #[pA N,pA s] 9)) (pA (N++s))):=λW=>by
  have h:=nI W.1.size 2 2 [N,s] (W.alloc (xA #[pA N,pA s] 9)) rfl WM (by simp) (by simp) (by simp) (by simp[iG];omega);have e:vF [N,s]=N++s:=by simp[vF]
  rw[e]at h;exact h
 go_enter func162,ntmps162;go_wp2_with fail;apply jC (i.o _);intro l a;have f:cB _:=a;clear a;go_wp2_with fail;apply jC (g.o _);intro m b;have d:cB _:=aC (aC f.o bC) b;clear b;go_wp2;go_ret;exact⟨rfl,d.o⟩
def zn{w:fA}{B:Nat}{e:kA}{a:Nat}{v:jA}{n:Nat}{xs:List jA}(h:w.ownsRow B e a v n xs):∀g,v.ownBlock=cA g->B<=g:=by
 intro g b;obtain⟨rfl,_⟩|⟨i,cap,c,rfl,d,_⟩:=h.2;simp[jA.ownBlock]at b;simp[jA.ownBlock]at b;subst b;exact d
def qW:(prog.info? 144).map (λi=>(i.zero,i.size,i.bytes))=cA (cA (.agg #[pA lA,pA lA,aB 0]),3,40):=by kernel_rfl
structure WI(w wr:World)(C:Nat)(a1:nC)(es:List iB)(f:iB)(av:nC)(n cv:Nat)(xs:List Value):Prop where
 row:wr.ownsRow (w.1.size+1) 144 3 (qA av n cv) n xs
 ap:∀b o,a1=cA (eB b o)→cA b≠(jA.slice av n cv).ownBlock∧b<C
 sz:C≤wr.1.size
 fi:uB wr a1 es
 fb:jB wr w.1.size #[pA f.N,pA f.data,aB f.Y] 144
 bel:xB w wr
section
variable {w wr w':fA} {C n cv g cap:Nat} {a1 av:nC} {es:List iB} {f:iB} {xs ys:List jA}
theorem WI.z(h:WI w wr C a1 es f av n cv xs)(a:xB wr w'):WI w w' C a1 es f av n cv xs:=⟨hC h.row a,h.ap,Ua h.sz a.size,h.fi.z a,h.fb.z a,aC h.bel a⟩
theorem WI.app(h:WI w wr C a1 es f av n cv xs)(O:cB (w'.ownsRow (w.1.size+1) 144 3 (qA (vB g) (n+1) cap) (n+1) ys))(T:cB (fB (λi=>w.1.size+1<=i/\(jA.slice av n cv).ownBlock=cA i) wr w'))(c:cB ((jA.slice av n cv).ownBlock=cA g\/wr.1.size<=g)):WI w w' C a1 es f (vB g) (n+1) cap ys:=by
 have r:=bB h.fb;refine⟨O.o,λb o e=>⟨λk=>?_,(h.ap b o e).2⟩,Ua h.sz T.o.size,?_,T.o.blk h.fb (by omega),h.bel.trans (T.o.below (by omega) λi m e=>by omega)⟩
 .have:=(h.ap b o e).2;have:=h.sz;simp only[jA.ownBlock,Qa]at k;subst k;obtain l|l:=c.o
  .exact (h.ap b o e).1 l.symm
  omega
 obtain d|⟨b,o,rfl,a,d⟩:=h.fi;exact Ca d;have p:=T.o.block b a λe=>(h.ap b o rfl).1 e.2.symm;have q:∀j,w'.cell? (eB b j)=wr.cell? (eB b j):=λj=>fA.cell?_of_block p;exact La ⟨b,o,rfl,Bb a T.o.size,λi m=>by simp only[q];exact d i m⟩
end
def od(a:nC)(cap:Nat)(k:List iB)(f:iB)(w:fA)(W:uB w a k)(K:zA k<=1048576):
 iA prog 163 #[qA a (zA k) cap,.agg #[pA f.N,pA f.data,aB f.Y]] w λe w'=>∃v,e=vA v/\w'.ownsRow w.1.size 144 3 v (zA (yG k f)) (flat (yG k f))/\xB w w':=by
 have h:=dB W;clear W;go_enter func163,ntmps163;go_wp2_with fail;refine(AZ a cap k f.N _ ((h.o.z bC).z bC) K).mono ?_;rintro e S ⟨v1,rfl,c,u⟩;obtain⟨a1,T,rfl,q⟩:=qH c;have h:=kT k f.N;have H:cB (yG k f=nG (vC k f.N) f):=rfl;generalize vC k f.N=es at *;have G:cB (WI w S S.1.size a1 es f (vB (w.1.size+1)) 0 0 []):=by
  have h:=jB.z (w:=(w.alloc (xA #[pA f.N,pA f.data,aB f.Y] 144)).alloc (xA #[] 144)) (g:=(w.alloc (xA #[pA f.N,pA f.data,aB f.Y] 144)).1.size) (heap_alloc_new _ _) u;refine⟨⟨rfl,La ⟨w.1.size+1,0,#[],rfl,Ia _,by show jB _ _ _ _;simpa using h,Ia _,Oa _,rfl,rfl⟩⟩,λb o e=>?_,Ia _,q.files,(jB.z (jB.z (g:=w.1.size) (heap_alloc_new w (xA #[pA f.N,pA f.data,aB f.Y] 144)) gD) bC).z u,aC (aC bC bC) u⟩;have m:=(zn c) b (by rw[e];rfl);have C:=(eH c) b (by rw[e];rfl);simp at m;exact⟨by simp[jA.ownBlock];omega,C⟩
 clear c q u;go_wp2;go_loopw [5,6,8,15] (λo p _ i wr=>∃(j:Nat)(av:nC)(n cv:Nat),j<=zA es/\i=aB j/\o=qA av n cv/\p=sA (rH es f j)/\n=zA (aM es f j)/\cB (WI w wr S.1.size a1 es f av n cv (flat (aM es f j)))) (λ_ _ _ i _=>zA es-(intOf i).toNat)
 case atStart=>exact⟨0,_,0,0,Oa _,rfl,rfl,rfl,rfl,G.o⟩
 case round=>
  obtain⟨j,av,n,cv,m,rfl,rfl,rfl,X,m⟩:=hrel;have M:=dB X;have C:n<=1048577:=by have:=ik es f j;omega
  have R:=bB m.o.fb;have x0:yC wr w.1.size 0 (pA f.N):=m.o.fb.cell 0;have x1:yC wr w.1.size 1 (pA f.data):=m.o.fb.cell 1;have x2:yC wr w.1.size 2 (aB f.Y):=m.o.fb.cell 2;clear X G;by_cases d:j<zA es
  .obtain ⟨b,o,rfl,hb,c0,c1,c2⟩:=m.o.fi.at d;have t:=dB (m.o.z (zF wr (xA #[pA es[j].N,pA es[j].data,aB es[j].Y] 144)));have P:cB (jB (wr.alloc (xA #[pA es[j].N,pA es[j].data,aB es[j].Y] 144)) wr.1.size #[pA es[j].N,pA es[j].data,aB es[j].Y] 144):=heap_alloc_new _ _;have J:w.1.size+1<=(wr.alloc (xA #[pA es[j].N,pA es[j].data,aB es[j].Y] 144)).1.size:=by simp;omega
   have A:(rH es f j=dA/\Op.bytesLess f.N.toList es[j].N.toList=eA/\Op.bytesLess es[j].N.toList f.N.toList=dA/\(es[j].N.toList==f.N.toList)=dA)\/rH es f (j+1)=rH es f j/\aM es f (j+1)=aM es f j++[es[j]]/\(rH es f j=eA\/rH es f j=dA/\Op.bytesLess f.N.toList es[j].N.toList=dA/\(Op.bytesLess es[j].N.toList f.N.toList=eA\/(es[j].N.toList==f.N.toList)=eA)):=by
    cases l:rH es f j
    .cases r:Op.bytesLess f.N.toList es[j].N.toList
     .refine La ⟨by rw[uM d,l,r];rfl,aEk d l r,La ⟨rfl,rfl,?_⟩⟩;by_cases e:es[j].N.toList=f.N.toList
      .right;simpa using e
      left;exact wL _ _ r (Ne.symm e)
     exact Ca ⟨rfl,rfl,uP r,by rw[Ug];intro e;rw[e,gG]at r;exact absurd r (by simp)⟩
    exact La ⟨by rw[uM d,l];rfl,il d l,Ca rfl⟩
   obtain⟨l,r,o,o⟩|⟨L,Y,A⟩:=A
   .have F:=dB (aEl d l r);have N:cB (rH es f (j+1)=eA):=by show _=_;rw[uM d,r];simp
    go_wp2_with(first
     |(at_builtin;refine zM rfl _ _ rfl underlying33 qW rfl (by omega) (by omega) rfl t.o.row rfl (by simp) (cs:=#[pA f.N,pA f.data,.int .i64 f.Y]) rfl (by simp[jA.oneCell']) (by omega) (by exact J) ?_;intro V y D I B E;have z:=dB (t.o.app I B E);have x:=B.o.blk P.o (λe=>absurd (eH m.o.row _ e.2) (by omega));have o:yC D wr.1.size 0 (pA es[j].N):=x.cell 0;have o:yC D wr.1.size 1 (pA es[j].data):=x.cell 1;have o:yC D wr.1.size 2 (.int .i64 es[j].Y):=x.cell 2;have Q:w.1.size+1<=D.1.size:=bB z.o.fb;clear x)
     |(at_builtin;refine zM rfl _ _ rfl underlying33 qW rfl (by omega) (by omega) rfl z.o.row rfl rfl (cs:=#[pA es[j].N,pA es[j].data,.int .i64 es[j].Y]) rfl (by simp[jA.oneCell']) (by omega) (by exact Q) ?_;intro o U w6 o C Z))
    refine⟨⟨j+1,_,n+1+1,_,by omega,by go_num,rfl,by rw[N.o],by rw[F.o,Kb,Kb,<-M.o];rfl,?_⟩,by simp[intOf];omega⟩;rw[F.o,flat_append,flat_append,sY,sY];exact dB (z.o.app o C Z)
   have F:=dB Y;have N:=dB L;clear Y L;obtain l|⟨l,r,o|o⟩:=A
   all_goals
    rw[l]at N;go_wp2_with(at_builtin;refine zM rfl _ _ rfl underlying33 qW rfl (by omega) (by omega) rfl t.o.row rfl (by simp) (cs:=#[pA es[j].N,pA es[j].data,aB es[j].Y]) rfl (by simp[jA.oneCell']) (by omega) (by exact J) ?_;intro V y D I B E);refine⟨⟨j+1,_,n+1,_,by omega,by go_num,rfl,by rw[N.o],by rw[F.o,Kb,<-M.o];rfl,?_⟩,by simp[intOf];omega⟩;rw[F.o,flat_append,sY];exact dB (t.o.app I B E)
  have s:cB (j=zA es):=by show _=_;omega
  cases l:rH es f j
  .have O:cB (yG k f=aM es f j++[f]):=by show _=_;rw[H.o,s.o];exact aEj (by rw[<-s.o];exact l)
   go_wp2_with(at_builtin;refine zM rfl _ _ rfl underlying33 qW rfl (by omega) (by omega) rfl m.o.row rfl rfl (cs:=#[pA f.N,pA f.data,aB f.Y]) rfl (by simp[jA.oneCell']) (by omega) (by exact R) ?_;intro V y D I B E);go_ret;rw[O.o,Kb,<-M.o,flat_append,sY];have h:=m.o.app I B E;exact⟨_,rfl,QO (B':=w.1.size) h.row (by omega),h.bel⟩
  have O:cB (yG k f=aM es f j):=by show _=_;rw[H.o,s.o];exact aEi (by rw[<-s.o];exact l)
  go_wp2;go_ret;rw[O.o,<-M.o];exact⟨_,rfl,QO (B':=w.1.size) m.o.row (by omega),m.o.bel⟩
def RJ:pB:=⟨#[97,32,115,101,103,109,101,110,116,32,97,104,101,97,100,32,111,102,32,116,104,101,32,108,97,115,116,32,105,115,32,116,111,114,110]⟩
def aMj:pB:=⟨#[116,104,101,32,115,101,103,109,101,110,116,115,32,97,114,101,32,110,111,32,108,111,103]⟩
def af:pB:=⟨#[116,104,101,32,112,97,121,108,111,97,100,32,104,97,115,32,110,111,32,102,114,97,109,101]⟩
def aMi:pB:=⟨#[116,104,101,32,108,111,103,32,104,97,115,32,110,111,32,115,101,103,109,101,110,116,115,32,108,101,102,116]⟩
def aGt(a:Nat):jA:=match a with
 |20=>.iface 147 (pA RJ)
 |21=>.iface 147 (pA aMj)
 |22=>.iface 147 (pA af)
 |23=>.iface 147 (pA aMi)
 |c=>nH c
def FW{P:Program}(w:fA){t a:kA}{e:Array (String×kA)}(b:pB)(c:P.underlying t=cA (.interface e)):
 (binOp .eql t .nilIface (.iface a (pA b))).run P w=.ok (sA dA) w:=by
 have h:∀d:Nat,(Op.equalIn (d+2) t .nilIface (.iface a (pA b))).run P w=.ok dA w:=λd=>by
  simp[Op.equalIn,run_underlying c]
 simp only[binOp];simp[Op.equal,Op.maxDepth,h 9998]
def aLa(b:pB)(w:fA):
 rI 67 #[.nilIface,.iface 147 (pA b)] w (sA dA):=by
 have a:(binOp .eql 67 .nilIface (.iface 147 (pA b))).run prog w=.ok (sA dA) w:=FW w b underlying67;go_enter func67,ntmps67;go_wp2;go_ret;exact⟨rfl,rfl⟩
def YP(a:Nat)(h:a<=6)(b:pB)(w:fA)(c:(aFh==b)=dA)(d:(ae==b)=dA)(f:(aFi==b)=dA)(g:(RK==b)=dA)(i:(ad==b)=dA)(j:(aMh==b)=dA):
 rI 67 #[nH a,.iface 147 (pA b)] w (sA dA):=by
 match a,h with
 |0,_=>exact aLa b w
 |1,_=>exact tF _ _ dA c w
 |2,_=>exact tF _ _ dA d w
 |3,_=>exact tF _ _ dA f w
 |4,_=>exact tF _ _ dA g w
 |5,_=>exact tF _ _ dA i w
 |6,_=>exact tF _ _ dA j w
def gJ(a:Nat)(h:a<=6)(w:fA):rI 68 #[nH a] w (aB a):=by
 have c:cB (∀W,rI 67 #[nH a,.iface 147 (pA RJ)] W (sA dA)):=λW=>YP a h _ W (by kernel_rfl) (by kernel_rfl) (by kernel_rfl) (by kernel_rfl) (by kernel_rfl) (by kernel_rfl);have d:cB (∀W,rI 67 #[nH a,.iface 147 (pA aMj)] W (sA dA)):=λW=>YP a h _ W (by kernel_rfl) (by kernel_rfl) (by kernel_rfl) (by kernel_rfl) (by kernel_rfl) (by kernel_rfl);have f:cB (∀W,rI 67 #[nH a,.iface 147 (pA af)] W (sA dA)):=λW=>YP a h _ W (by kernel_rfl) (by kernel_rfl) (by kernel_rfl) (by kernel_rfl) (by kernel_rfl) (by kernel_rfl);have g:cB (∀W,rI 67 #[nH a,.iface 147 (pA aMi)] W (sA dA)):=λW=>YP a h _ W (by kernel_rfl) (by kernel_rfl) (by kernel_rfl) (by kernel_rfl) (by kernel_rfl) (by kernel_rfl);have i:cB _:=λW=>ct a h W;generalize nH a=E at *;go_enter func68,ntmps68;go_wp2_with fail;apply kO (c.o _);go_wp2_with fail;apply kO (d.o _);go_wp2_with fail;apply kO (f.o _);go_wp2_with fail;apply kO (g.o _);go_wp2_with fail;apply kO (i.o _);go_wp2;go_ret;exact⟨rfl,rfl⟩
def LP(w:fA):rI 68 #[.iface 147 (pA RJ)] w (aB 20):=by
 go_enter func68,ntmps68;go_wp2_with fail;refine jC (tF _ _ eA (by kernel_rfl) _) ?_;rintro a rfl;go_wp2;go_ret;exact⟨rfl,rfl⟩
def gd(w:fA):rI 68 #[.iface 147 (pA aMj)] w (aB 21):=by
 go_enter func68,ntmps68;go_wp2_with fail;refine jC (tF _ _ dA (by kernel_rfl) _) ?_;rintro a rfl;go_wp2_with fail;refine jC (tF _ _ eA (by kernel_rfl) _) ?_;rintro a rfl;go_wp2;go_ret;exact⟨rfl,rfl⟩
def PT(w:fA):rI 68 #[.iface 147 (pA af)] w (aB 22):=by
 go_enter func68,ntmps68;go_wp2_with fail;refine jC (tF _ _ dA (by kernel_rfl) _) ?_;rintro a rfl;go_wp2_with fail;refine jC (tF _ _ dA (by kernel_rfl) _) ?_;rintro a rfl;go_wp2_with fail;refine jC (tF _ _ eA (by kernel_rfl) _) ?_;rintro a rfl;go_wp2;go_ret;exact⟨rfl,rfl⟩
def gc(w:fA):rI 68 #[.iface 147 (pA aMi)] w (aB 23):=by
 go_enter func68,ntmps68;go_wp2_with fail;refine jC (tF _ _ dA (by kernel_rfl) _) ?_;rintro a rfl;go_wp2_with fail;refine jC (tF _ _ dA (by kernel_rfl) _) ?_;rintro a rfl;go_wp2_with fail;refine jC (tF _ _ dA (by kernel_rfl) _) ?_;rintro a rfl;go_wp2_with fail;refine jC (tF _ _ eA (by kernel_rfl) _) ?_;rintro a rfl;go_wp2;go_ret;exact⟨rfl,rfl⟩
def gf(a:Nat)(h:a<=6\/a=20\/a=21\/a=22\/a=23)(w:fA):rI 68 #[aGt a] w (aB a):=by
 obtain h|rfl|rfl|rfl|rfl:=h
 rotate_left
 .exact LP w
 .exact gd w
 .exact PT w
 .exact gc w
 match a,h with
 |0,_=>exact gJ 0 (by omega) w
 |1,_=>exact gJ 1 (by omega) w
 |2,_=>exact gJ 2 (by omega) w
 |3,_=>exact gJ 3 (by omega) w
 |4,_=>exact gJ 4 (by omega) w
 |5,_=>exact gJ 5 (by omega) w
 |6,_=>exact gJ 6 (by omega) w
def ds(x:Int)(w:fA):rI 314 #[aB x] w (sA (yB x 1 60000)):=by
 by_cases a:1<=x
 .by_cases b:x<=60000
  .have e:yB x 1 60000=eA:=by simp[yB,a,b]
   rw[e];go_enter func314,ntmps314;go_wp2;go_ret;exact⟨rfl,rfl⟩
  have e:yB x 1 60000=dA:=by simp[yB,b]
  rw[e];go_enter func314,ntmps314;go_wp2;go_ret;exact⟨rfl,rfl⟩
 have e:yB x 1 60000=dA:=by simp[yB,a]
 rw[e];go_enter func314,ntmps314;go_wp2;go_ret;exact⟨rfl,rfl⟩
