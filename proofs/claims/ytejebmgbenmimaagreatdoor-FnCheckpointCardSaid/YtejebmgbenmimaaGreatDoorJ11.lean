import Derived.Test.YtejebmgbenmimaaGreatDoorJ08
import Derived.Test.YtejebmgbenmimaaGreatDoorJ09
set_option maxRecDepth 100000
set_option maxHeartbeats 4000000
set_option linter.defProp false
open Bool renaming false->gA,true->iA
open Option renaming some->fA
open ByteArray renaming empty->pA
open List renaming length->cB
namespace Go.Proofs.YtejebmgbenmimaaGreatDoor
open Go renaming World->jA,Value->mA,Calls->lA,TypeId->oA
open Value renaming string->tA,bool->vA,slice->uA,tuple->bB
open Obj renaming cells->aB
open Ending renaming returned->zA
open Go.RowKit Tryz
def XK(s:vB)(w:jA)(o:s.size<=maxLen):
 bM 327 #[tA s] w (vA (OT s)):=by
 unfold maxLen at o;by_cases d:1<=s.size/\s.size<=64
 .have q:¬((s.size:Int)<1):=by omega
  go_enter func327,ntmps327;go_wp2;apply wp_scope_straight;go_wp2;apply wp_label;go_wp2;go_loop [3,4,20,35] (λi _ _ _=>∃j:Nat,j<=s.size/\i=dB j/\fB (∀k,k<j->BB s k)) (λi _ _ _=>s.size-(intOf i).toNat)
  case atStart=>exact⟨0,Oa _,rfl,λk m=>absurd m (by omega)⟩
  case round=>
   obtain⟨j,x,rfl,b⟩:=hrel;by_cases a:j<s.size
   .have n:s[j].toNat<256:=s[j].toNat_lt;have c:fB (s[j].toNat=aD s j):=zU s j a;have l:((j:Int)==(s.size:Int))=gA:=by simp;omega
    by_cases u:s[j].toNat=95
    .have g:((s[j].toNat:Int)==95)=iA:=by simp;omega
     go_wp2;all_goals
      refine⟨⟨j+1,by omega,by go_num,?_⟩,by simp[intOf];omega⟩;show ∀k,_;intro k m;by_cases e:k=j
      .subst e;unfold BB cY;rw[<-c.o];omega
      exact b.o k (by omega)
    have g:((s[j].toNat:Int)==95)=gA:=by simp;omega
    go_wp2;all_goals first
     |(go_ret
       refine⟨tB (gV ?_).symm,rfl⟩;intro h;have:=h.2.2 j a;unfold BB cY NF at this;rw[<-c.o]at this;omega)
     |(refine⟨⟨j+1,by omega,by go_num,?_⟩,by simp[intOf];omega⟩
       show ∀k,_;intro k m
       by_cases e:k=j
       .subst e
        unfold BB cY NF;rw[<-c.o];omega
       exact b.o k (by omega))
   have l:((j:Int)==(s.size:Int))=iA:=by simp;omega
   go_wp2;go_ret;exact⟨tB (UH ⟨by omega,by omega,λi v=>b.o i (by omega)⟩).symm,rfl⟩
 have E:fB (OT s=gA):=gV (λh=>d ⟨h.1,h.2.1⟩);by_cases r:(s.size:Int)<1
 .clear d;go_enter func327,ntmps327;go_wp2;apply wp_scope_straight;go_wp2;rw[Exit.noGoto_ret];show bodyPost prog f327 _ Exit.ret _ _;go_ret;exact⟨tB E.o.symm,rfl⟩
 have t:(64:Int)<s.size:=by omega
 clear d;go_enter func327,ntmps327;go_wp2;apply wp_scope_straight;go_wp2;rw[Exit.noGoto_ret];show bodyPost prog f327 _ Exit.ret _ _;go_ret;exact⟨tB E.o.symm,rfl⟩
def jU(x:hC):List mA:=[tA x.N,tA x.V]
def QZ(l:hC)(w:jA)(m:l.N.size<=1000000000)(f:l.V.size<=1000000000)(c:iH w):
 gF 306 #[.agg #[tA l.N,tA l.V]] w (dB (pQ l:Nat)):=by
 have j:fB (iH w):=c;have b:fB _:=λW=>XK l.N W (by unfold maxLen;omega);have k:fB _:=λW h=>JR l.V W f h;clear c m f;by_cases h:OT l.N=iA
 .have E:fB (pQ l=zO l.V):=by show _=_;rw[pQ,Ma h]
  rw[E.o];have a:fB _:=h;clear h E;generalize l.N=n at *;generalize l.V=g at *;generalize zO g=V at *;go_enter func306,ntmps306;go_wp2_with fail;apply oC (b.o _);intro p e;rw[a.o];replace e:=e.symm;subst e;go_wp2_with fail;apply oC (k.o _ (j.o.z aC));intro q d;have i:fB _:=xB aC d;clear d;go_wp2;go_ret;exact⟨rfl,i.o⟩
 have a:fB (OT l.N=gA):=by show _=_;simpa using h
 have E:fB (pQ l=41):=by show _=_;rw[pQ,Ja h]
 rw[E.o];clear h E;generalize l.N=n at *;generalize l.V=g at *;go_enter func306,ntmps306;go_wp2_with fail;apply oC (b.o _);intro p e;rw[a.o];replace e:=e.symm;subst e;go_wp2;go_ret;exact⟨rfl,aC⟩
def uk(t:vB)(B:Nat)(w:jA)(c:B<w.1.size)(a:w.cell? (iB B 0)=fA (tA t)):
 PredBelow prog 328 #[.pointer (cC B)] (λx=>.agg (jU x).toArray) (λx:hC=>x.N.toList==t.toList) w:=λW x b=>by
 have e:=(b.cell (p:=(iB B 0)) c).trans a;have d:=Bb c b.size;show lA prog 328 #[.agg #[tA x.N,tA x.V],.pointer (cC B)] W _;go_enter func328,ntmps328;go_wp2;go_ret;exact⟨rfl,b.alloc b.size _⟩
def cd(b o n c:Nat)(f:List hC)(t:vB)(w:jA)(u:b<w.1.size)(l:dP w b o f)(s:n<=cB f)(m:cB f<=2000000):
 gF 307 #[uA (fA (iB b o)) n c,tA t] w (vA ((f.take n).any λx=>x.N.toList==t.toList)):=by
 have q:∀args w,(callFunc 328 args).run prog w=.ok (.enter 328 args) w:=enters_of func328 (by kernel_rfl) rfl;haveI:=aFk
 have a:=AnyQ.slices_ContainsFunc contL 2 isAgg190 sizeOf190 jU (λ_=>rfl) (λx:hC=>x.N.toList==t.toList) 328 #[.pointer (cC w.1.size)] q b o n c f (w.alloc (aB #[tA t] 9))
  (uk t w.1.size _ (by simp) (by simp)) s (by omega) (by simp;omega) (λj k i v d=>by
   refine Lib.cell?_alloc_some _ ?_;have h:=l j k;have e:f[j]! = f[j]:=getElem!_pos f j k;rw[e]at d;match i,d with
   |0,d=>simp[jU]at d;rw[<-d];exact h.1
   |1,d=>simp[jU]at d;rw[<-d];exact h.2
   |i+2,d=>simp[jU]at d)
 change lA prog 234 _ _ _ at a;clear l;generalize ((f.take n).any λx=>x.N.toList==t.toList)=r at a |-
 go_enter func307,ntmps307;go_wp2_with(go_at_call 234;apply oC a;intro p g);go_ret;exact⟨rfl,((Below.refl _ w).alloc (Ia _) _).trans (g.mono (by simp))⟩
def OZ:OY.toList=[95,95,110,97,109,101,95,95]:=by rw[OY,ByteArray.toList_eq]
def EQ(a:nC)(l:Nat)(c:List hC)(w:jA)(p:vD w a c)(q:cB c<=2000000):
 gF 273 #[uA a (cB c) l] w (tA (aL c)):=by
 have s:fB (vD w a c):=p;clear p;go_enter func273,ntmps273;go_wp2;go_loopw [4,7] (λ_ i wr=>∃k:Nat,k<=cB c/\i=dB k/\fB (aL c=aL (c.drop k))/\zB w wr) (λ_ i _=>cB c-(intOf i).toNat)
 case atStart=>exact⟨0,Oa _,rfl,rfl,jD⟩
 case round=>
  obtain⟨k,z,rfl,j,d⟩:=hrel;by_cases g:k<cB c
  .obtain ⟨b,o,rfl,y,v,x⟩:=(s.o.z d).at g;have h:=UF c k g;have n:fB (bP c[k]=(c[k].N.toList==[95,95,110,97,109,101,95,95])):=by show _=_;rw[bP,OZ]
   generalize c[k].N=r at *;by_cases f:bP c[k]=iA
   .have m:(r.toList==[95,95,110,97,109,101,95,95])=iA:=by rw[<-n.o];exact f
    have E:fB (aL c=c[k].V):=by show _=_;rw[j.o,h,Ma f]
    clear h f;generalize c[k].V=t at *;go_wp2;go_ret;exact⟨by rw[E.o];rfl,xB d aC⟩
   have m:(r.toList==[95,95,110,97,109,101,95,95])=gA:=by rw[<-n.o];simpa using f
   have E:fB (aL c=aL (c.drop (k+1))):=by show _=_;rw[j.o,h,Ja f]
   clear h f;generalize c[k].V=t at *;go_wp2;exact⟨⟨k+1,by omega,by go_num,E.o,xB d aC⟩,by simp[intOf];omega⟩
  have E:fB (aL c=pA):=by
   show _=_;rw[j.o,Yb (by omega)];rfl
  go_wp2;go_ret;exact⟨by rw[E.o];rfl,d⟩
def VM(a:List hC):Prop:=∀i(h:i<cB a),a[i].N.size<=1000000000/\a[i].V.size<=1000000000
def eI(a:List hC):Nat×Nat:=
 if 16<cB a then(40,0) else match lD a 0 with
 |some (c,i)=>(c,i)
 |none=>match qF [] a 0 with
  |some i=>(45,i)
  |none=>if ((aL a).toList==ByteArray.empty.toList)=iA then(46,0) else(0,0)
def qf{a b c d:Nat}(e:a=c)(f:b=d):Ending.returned (bB #[dB (a:Nat),dB (b:Nat)])=zA (bB #[dB (c:Nat),dB (d:Nat)]):=by rw[e,f]
def NR{a:List hC}(h:16<cB a):eI a=(40,0):=by unfold eI;rw[Ma h]
def SW{a:List hC}(h:¬16<cB a){c i:Nat}(b:lD a 0=fA (c,i)):eI a=(c,i):=by unfold eI;rw[Ja h,b]
def JE{a:List hC}(h:¬16<cB a)(b:lD a 0=none){i:Nat}(c:qF [] a 0=fA i):eI a=(45,i):=by unfold eI;rw[Ja h,b,c]
def SY{a:List hC}(h:¬16<cB a)(b:lD a 0=none)(c:qF [] a 0=none):eI a=if ((aL a).toList==ByteArray.empty.toList)=iA then(46,0) else(0,0):=by unfold eI;rw[Ja h,b,c]
def bo(a:nC)(g:Nat)(c:List hC)(w:jA)(h:vD w a c)(Z:VM c)(t:cB c<=2000000)(m:cB c<=g)(m:iH w):
 gF 278 #[uA a (cB c) g] w (bB #[dB ((eI c).1:Nat),dB ((eI c).2:Nat)]):=by
 have L:fB (vD w a c):=h;have n:fB (VM c):=Z;have Y:fB (iH w):=m;clear h Z m;by_cases J:16<cB c
 .rw[NR J];go_enter func278,ntmps278;go_wp2;go_ret2;exact⟨rfl,jD⟩
 have v:fB (¬16<cB c):=J;go_enter func278,ntmps278;go_wp2;go_loopw [4,5,6,14] (λ_ _ _ i wr=>∃k:Nat,k<=cB c/\i=dB k/\fB (lD c 0=lD (c.drop k) k)/\zB w wr) (λ_ _ _ i _=>cB c-(intOf i).toNat)
 case atStart=>exact⟨0,Oa _,rfl,rfl,jD⟩
 case round=>
  obtain⟨k,m,rfl,s,d⟩:=hrel;by_cases j:k<cB c
  .obtain ⟨b,o,rfl,N,c0,c1⟩:=(L.o.z d).at j;obtain⟨A,B⟩:=n.o k j;have y:fB _:=λW h=>QZ c[k] W A B h;have q:=AW c k j;by_cases I:pQ c[k]=0
   .have E:fB (lD c 0=lD (c.drop (k+1)) (k+1)):=by show _=_;rw[s.o,q,Ma I]
    have H:fB (∀W,iH W->gF 306 #[.agg #[tA c[k].N,tA c[k].V]] W (dB 0)):=by
     show ∀_,_;have:=y.o;rw[I]at this;exact this
    clear q y I A B;generalize c[k].N=r at *;generalize c[k].V=C at *;go_wp2_with fail;apply oC (H.o _ ((Y.o.z d).z aC));intro T f;have l:fB _:=xB (xB d aC) f;clear f;go_wp2;exact⟨⟨k+1,by omega,by go_num,E.o,l.o⟩,by simp[intOf];omega⟩
   have E:fB _:=SW v.o (by rw[s.o,q,Ja I]);have n:((pQ c[k]:Int) != 0)=iA:=by simp;omega
   clear q I A B;generalize pQ c[k]=V at *;generalize c[k].N=r at *;generalize c[k].V=C at *;go_wp2_with fail;apply oC (y.o _ ((Y.o.z d).z aC));intro T f;have l:fB _:=xB (xB d aC) f;clear f;go_wp2;go_ret2;exact⟨qf (by rw[E.o]) (by rw[E.o]),l.o⟩
  have X:fB (lD c 0=none):=by
   show _=_;rw[s.o,Yb (by omega)];rfl
  clear s;go_wp2;clear j m;go_loopw [7,8,28] (λ_ _ i wr=>∃k:Nat,k<=cB c/\i=dB k/\fB (qF [] c 0=qF (c.take k) (c.drop k) k)/\zB w wr) (λ_ _ i _=>cB c-(intOf i).toNat)
  case atStart=>exact⟨0,Oa _,rfl,rfl,d⟩
  case round=>
   clear d;obtain⟨k,m,rfl,s,d⟩:=hrel;by_cases j:k<cB c
   .obtain ⟨b,o,rfl,N,c0,c1⟩:=(L.o.z d).at j;have q:=EC c k j;have K:dP wr b o c:=by
     rcases L.o.z d with h|⟨b',m,e,_,h⟩;rw[h]at j;exact absurd j (by simp);simp only[Qa,Addr.mk.injEq,Cc]at e;obtain⟨rfl,rfl⟩:=e;exact h
    have p:fB (∀W,zB wr W->gF 307 #[uA (fA (iB b o)) k g,tA c[k].N] W (vA ((c.take k).any λx=>iR x c[k]))):=λW R=>by
     have h:dP W b o c:=λi m=>by
      have:=K i m;exact⟨(R.cell N).trans this.1,(R.cell N).trans this.2⟩
     exact cd b o k g c c[k].N W (Bb N R.size) h (by omega) t
    have h:(0:Int)<=(k:Int):=by omega
    have h:(k:Int)<=(g:Int):=by omega
    clear K;by_cases D:((c.take k).any λx=>iR x c[k])=iA
    .have E:fB _:=JE v.o X.o (by rw[s.o,q,Ma D]);have m:fB (∀W,zB wr W->gF 307 #[uA (fA (iB b o)) k g,tA c[k].N] W (vA iA)):=by
      show ∀_,_;have:=p.o;rw[D]at this;exact this
     clear q p D;generalize c[k].N=r at *;generalize c[k].V=C at *;have Q:∀x:mC (wr.alloc (aB #[tA r,tA C] 190)),x.w'.cell? (iB wr.1.size 0)=fA (tA r):=mC.cells (by simp);have z:=mC.there (wr.alloc (aB #[tA r,tA C] 190));go_wp2_with fail;refine bC (by kernel_rfl) (by kernel_rfl) ?_;repeat (go_big_quiet_step (first|(go_at_call 307;exact rC (m.o _ (xB aC (mC.h _))))))
     refine wpQuiet_nil ?_;rintro _ ⟨x,rfl⟩;have P:fB _:=xB (xB d aC) x.h;clear Q z;generalize x.w'=W at *;clear x;go_wp2;go_ret2;exact⟨qf (by rw[E.o]) (by rw[E.o]),P.o⟩
    .have E:fB (qF [] c 0=qF (c.take (k+1)) (c.drop (k+1)) (k+1)):=by show _=_;rw[s.o,q,Ja D]
     have m:fB (∀W,zB wr W->gF 307 #[uA (fA (iB b o)) k g,tA c[k].N] W (vA gA)):=by
      show ∀_,_;have h:((c.take k).any λx=>iR x c[k])=gA:=by simpa using D
      have:=p.o;rw[h]at this;exact this
     clear q p D;generalize c[k].N=r at *;generalize c[k].V=C at *;have Q:∀x:mC (wr.alloc (aB #[tA r,tA C] 190)),x.w'.cell? (iB wr.1.size 0)=fA (tA r):=mC.cells (by simp);have z:=mC.there (wr.alloc (aB #[tA r,tA C] 190));go_wp2_with fail;refine bC (by kernel_rfl) (by kernel_rfl) ?_;repeat (go_big_quiet_step (first|(go_at_call 307;exact rC (m.o _ (xB aC (mC.h _))))))
     refine wpQuiet_nil ?_;rintro _ ⟨x,rfl⟩;have P:fB _:=xB (xB d aC) x.h;clear Q z;generalize x.w'=W at *;clear x;go_wp2;exact⟨⟨k+1,by omega,by go_num,E.o,P.o⟩,by simp[intOf];omega⟩
   .have O:fB (qF [] c 0=none):=by
     show _=_;rw[s.o,Yb (by omega)];rfl
    have U:fB (gF 273 #[uA a (cB c) g] wr (tA (aL c))):=EQ a g c wr (L.o.z d) t;have E:=SY v.o X.o O.o;have G:fB (ByteArray.empty.toList=[]):=by show _=_;rw[ByteArray.toList_eq];rfl
    generalize aL c=M at *;by_cases u:(M.toList==ByteArray.empty.toList)=iA
    .have F:fB (eI c=(46,0)):=by show _=_;rw[E,Ma u]
     have S:M.toList.isEmpty=iA:=by rw[G.o]at u;simpa using u
     clear u E;go_wp2_with fail;apply oC U.o;intro T f;have l:fB _:=xB d f;clear f;go_wp2;go_ret2;exact⟨qf (by rw[F.o]) (by rw[F.o]),l.o⟩
    have F:fB (eI c=(0,0)):=by show _=_;rw[E,Ja u]
    have S:M.toList.isEmpty=gA:=by rw[G.o]at u;simpa using u
    clear u E;go_wp2_with fail;apply oC U.o;intro T f;have l:fB _:=xB d f;clear f;go_wp2;go_ret2;exact⟨qf (by rw[F.o]) (by rw[F.o]),l.o⟩
section
open Go.Sort
def cfL(x y:hC):Int:=lY x.N y.N
def ltL(x y:hC):ltOf cfL x y=cP x y:=by
 unfold ltOf cfL lY cP;split
 .rename_i h;rw[h];rfl
 rename_i h;have a:Op.bytesLess x.N.toList y.N.toList=gA:=by simpa using h
 rw[a];split<;>rfl
def aMr:SWO (ltOf cfL) where
 irrefl x:=by rw[ltL];exact iF _
 trans x y z h1 h2:=by rw[ltL]at *;exact kJ _ _ _ h1 h2
 ntrans x y z h1 h2:=by rw[ltL]at *;exact OS (x:=z) (y:=y) (z:=x) h2 h1
def nh(x y:hC)(W:jA):lA prog 280 #[.agg #[tA x.N,tA x.V],.agg #[tA y.N,tA y.V]] W λe c=>e=zA (dB (cfL x y))/\∃q b,c=grow (W.drewN q) b:=by
 have a:=λd=>IW x.N y.N d;unfold cfL;generalize lY x.N y.N=r at a |-
 go_enter func280,ntmps280;go_wp2_with(go_at_call 213;apply oC (a _);rintro c rfl);go_ret;exact⟨rfl,0,_,by rw[alloc_eq_grow,alloc_eq_grow,grow_grow];rfl⟩
section
variable [Inhabited hC]
theorem ao(c b a:Nat)(w:jA):CmpLays prog 280 #[] jU 2 cfL c b a w:=
 λ_ _ _ _ x y=>nh x y _
theorem nj{w:jA}{g n:Nat}{a:Array mA}{t:oA}(h:rB w g a t)(d:Array hC)(e:Array Obj):∃b,rB (sortWorldK jU 2 w g 0 n d e) g b t:=by
 have c:=eB h;refine⟨putCells id 0 (flatK jU 2 d) a,?_⟩;unfold rB sortWorldK putRowK putRow mapBlock;rw[heap_grow_old _ _ (by simpa[ahead]using c)];show(Array.modify w.heap g _)[g]?=_;rw[Array.getElem?_modify,Ma rfl];unfold rB at h;rw[h];rfl
theorem ni{w:jA}{g n B:Nat}(b:B<=g)(c:g<w.1.size)(d:Array hC)(a:Array Obj):Below B w (sortWorldK jU 2 w g 0 n d a):=by
 refine⟨rfl,rfl,rfl,?_,λk e=>?_⟩;simp[sortWorldK,putRowK,putRow,mapBlock];unfold sortWorldK putRowK putRow mapBlock;rw[heap_grow_old _ _ (by simp;omega)];show(Array.modify w.heap g _)[k]?=_;rw[Array.getElem?_modify,Ja (by omega)]
theorem cg{w:jA}{g:Nat}{c:Array mA}{t:oA}{b:List hC}(h:rB w g c t)(k:dP w g 0 b):HoldsK jU 2 w g 0 b.toArray:=by
 intro j d;rw[size_flatK]at d;have a:j / 2<cB b:=by simp at d;omega
 refine⟨?_,h.free _⟩;rw[get_flatK _ _ _ _ d];have e:b.toArray[j / 2]! = b[j / 2]:=by simp[getElem!_pos,a]
 rw[e];have i:=k (j / 2) a;rcases Nat.mod_two_eq_zero_or_one j with f|f;rw[f];have:=i.1;rw[show 0+j / 2*2=0+j by omega]at this;rw[this];rfl;rw[f];have:=i.2;rw[show 0+j / 2*2+1=0+j by omega]at this;rw[this];rfl
theorem aFm{w:jA}{g B:Nat}{b:Array mA}{t:oA}{d:Array hC}(h:rB w g b t)(l:B<=g)(k:HoldsK jU 2 w g 0 d):qE w B (cC g) d.toList:=by
 refine La ⟨g,0,b,t,rfl,l,h,λi m=>?_⟩;have a:i<d.size:=by simpa using m
 have f:=(k.cell (c:=0) a (by omega)).1;have j:=(k.cell (c:=1) a (by omega)).1;have e:d[i]! = d[i]:=getElem!_pos d i a;rw[e]at f j;rw[Mg];exact⟨f,j⟩
theorem gm{d:Array hC}(h:SortedIn (ltOf cfL) 0 d.size d):d.toList.Pairwise Le:=by
 rw[Qe];intro i j e c b;have a:j<d.size:=by simpa using c
 have:=h i j (Oa _) b a;rw[ltL,getElem!_pos d i (by omega),getElem!_pos d j a]at this;rw[Mg,Mg];exact this
theorem YT(g h:Nat)(a:List hC)(w:jA)(B:Nat)(s:B<=g){l:Array mA}{t:oA}(k:rB w g l t)(u:dP w g 0 a)(y:cB a<=2000000):
 lA prog 279 #[uA (cC g) (cB a) h,.func (.func 280) #[] #[]] w λe q=>
  e=zA (bB #[])/\∃f,f.Perm a/\f.Pairwise Le/\qE q B (cC g) f/\Below B w q:=by
 have D:∀args w,(callFunc 280 args).run prog w=.ok (.enter 280 args) w:=enters_of func280 (by kernel_rfl) rfl;have o:=eB k;have c:=AnyQ.slices_SortFunc sortL 2 isAgg190 sizeOf190 jU (λ_=>rfl) (λx v z=>by simp[jU]at z;rcases z with rfl|rfl<;>rfl) cfL aMr 280 #[] g 0 h a.toArray w D (ao g 0 _ w) (cg k u) o (by simp;omega);change lA prog 279 _ _ _ at c;apply oC c;rintro q ⟨b,n,p,F,G,rfl⟩;obtain⟨d,_,i⟩:=F;obtain⟨r,m⟩:=nj (n:=n) k b p;have E:HoldsK jU 2 (sortWorldK jU 2 w g 0 n b p) g 0 b:=
  holdsK_grow jU 2 _ _ _ _ _ (by simpa[putRowK,putRow,mapBlock,ahead]using o) (holdsK_putRowK jU 2 _ _ _ a.toArray b (holdsK_ahead jU 2 _ _ _ _ _ (cg k u)) d)
 have j:b.size=cB a:=by simpa using d
 refine⟨rfl,b.toList,?_,gm (by rw[j];simpa using G),aFm m s E,ni s o b p⟩;have A:b.extract 0 a.toArray.size=b:=by rw[<-d];simp
 have C:a.toArray.extract 0 a.toArray.size=a.toArray:=by simp
 rw[A,C]at i;exact i
end
end
def JD(b:List hC):((eI b).1=0->yB b=(kG [] b,0,0)/\gU b/\rR b=iA/\(eI b).2=0/\¬16<cB b)/\((eI b).1≠0->yB b=([],(eI b).1,(eI b).2)):=by
 by_cases a:16<cB b
 .rw[NR a,BQ a];exact⟨λh=>absurd h (by simp),λ_=>rfl⟩
 cases hb:lD b 0 with
 |some e=>
  obtain⟨c,i⟩:=e;rw[SW a hb,vZ a hb];refine⟨λh=>?_,λ_=>rfl⟩;exfalso;have:∀(l:List hC)(j:Nat),lD l j=fA (c,i)->c≠0:=by
   intro l;induction l with
   |nil=>intro j h;simp[lD]at h
   |cons x r g=>
    intro j h;rw[lD]at h;split at h;exact g _ h
    rename_i f;simp only[Qa,Dc]at h;rw[<-h.1];exact f
  exact this b 0 hb h
 |none=>
  cases ht:qF [] b 0 with
  |some i=>
   rw[JE a hb ht,iY a hb ht];exact⟨λh=>absurd h (by simp),λ_=>rfl⟩
  |none=>
   have d:=pu b ht;rw[SY a hb ht,ed b d];cases hm:rR b with
   |true=>
    rw[MT a hb ht hm];exact⟨λ_=>⟨rfl,d,rfl,rfl,a⟩,λh=>absurd rfl h⟩
   |false=>
    rw[GK a hb ht hm];exact⟨λh=>absurd h (by simp),λ_=>rfl⟩
def TW{b:List hC}(h:rR b=iA):0<cB (oL b):=by
 unfold rR at h;rw[Zd]at h;obtain⟨x,c,a⟩:=h;rw[Sa]at a;exact List.length_pos_of_mem (De.2 ⟨c,a.1⟩)
def AY(a:nC)(m:Nat)(c:List hC)(w:jA)(h:vD w a c)(G:VM c)(X:cB c<=2000000)(V:cB c<=m)(I:iH w):
 lA prog 238 #[uA a (cB c) m] w λe D=>∃a' n,e=zA (bB #[.slice a' (cB (yB c).1) n,dB ((yB c).2.1:Nat),dB ((yB c).2.2:Nat)])/\cB (yB c).1<=n/\qE D w.1.size a' (yB c).1/\zB w D:=by
 have y:fB (gF 278 #[uA a (cB c) m] w (bB #[dB ((eI c).1:Nat),dB ((eI c).2:Nat)])):=bo a m c w h G X V I;have W:fB (vD w a c):=h;obtain⟨L,M⟩:=JD c;clear h G I;by_cases S:(eI c).1=0
 .obtain ⟨r,Z,H,h2,h16⟩:=L S;have F:fB (gF 278 #[uA a (cB c) m] w (bB #[dB 0,dB 0])):=by
   show lA _ _ _ _ _;have:=y.o;rw[S,h2]at this;exact this
  have j:fB (yB c=(kG [] c,0,0)/\gU c/\0<cB (oL c)):=⟨r,Z,TW H⟩
  obtain⟨ti,h,I,J,O⟩:=EJ;have HI:fB _:=h;clear L M S r Z H h2 y h;go_enter func238,ntmps238;go_wp2_with fail;apply oC F.o;intro w1 p;have K:fB _:=p;clear p F;go_wp2;go_loopw [7,9,21] (λh _ i wr=>∃(k:Nat)(d:List hC)(P:nC)(u:Nat),k<=cB c/\cB d<=k/\fB (d=oL (c.take k))/\i=dB k/\h=uA P (cB d) u/\fB (wr.ownsRow w.1.size 190 2 (uA P (cB d) u) (cB d) (wC d))/\zB w wr) (λ_ _ i _=>cB c-(intOf i).toNat)
  case atStart=>exact⟨0,[],none,0,Oa _,Oa _,rfl,rfl,rfl,⟨rfl,Ca ⟨rfl,rfl⟩⟩,K.o⟩
  case round=>
   obtain⟨k,d,P,u,h,h,U,rfl,rfl,f,l⟩:=hrel;by_cases Y:k<cB c
   .obtain ⟨b,o,rfl,hb,c0,c1⟩:=(W.o.z l).at Y;have m:=ln c k Y;have G:=dp c[k];have h:=l.size;by_cases s:vS c[k]=iA
    .have E:fB (d=oL (c.take (k+1))):=by show _=_;rw[m,Ma s,Cd];exact U.o
     have W:c[k].V.toList.isEmpty=iA:=by rw[<-G];exact s
     clear m s G;generalize c[k].N=nm at *;generalize c[k].V=h at *;go_wp2;exact⟨⟨k+1,d,P,u,by omega,by omega,E.o,by go_num,rfl,lC f.o aC,xB l aC⟩,by simp[intOf];omega⟩
    have E:fB (d++[c[k]]=oL (c.take (k+1))):=by show _=_;rw[m,Ja s,U.o]
    have W:c[k].V.toList.isEmpty=gA:=by rw[<-G];simpa using s
    have W:fB (wC [c[k]]=[tA c[k].N,tA c[k].V]):=rfl;clear m s G;generalize c[k]=m at *;generalize m.N=nm at *;generalize m.V=h at *;have Y:fB (∀x,zB wr ((wr.alloc (aB #[tA nm,tA h] 190)).alloc x)):=λx=>xB aC aC;go_wp2_with(at_builtin;refine wpList_append_lies _ rfl _ _ _ rfl w.1.size 190 ti _ 2 32 underlying129 HI.o I J O rfl (by omega) (uA P (cB d) u) (cB d) (wC d) rfl (by exact lC f.o (Y.o _)) (iB (wr.1.size+1) 0) 1 1 [tA nm,tA h] rfl rfl (by exact vt _ _ #[tA nm,tA h] _) (by simp[mA.oneCell']) (by omega) (by simp[maxLen];omega) (by omega) (by simp;omega) (wr.1.size+1+1) (by simp) ?_;intro J R G t A G G);have G:=(xB l (Y.o _)).grown A (by simp;omega) (λq I=>qI f.o q I);have O:cB (d++[m])=cB d+1:=by simp
    have I:wC d++[tA nm,tA h]=wC (d++[m]):=by rw[cG,W.o]
    rw[I,<-O]at t;exact⟨⟨k+1,d++[m],cC J,R,by omega,by rw[O];omega,E.o,by go_num,by rw[O],t,G⟩,by simp[intOf];omega⟩
   have Q:fB (d=oL c):=by show _=_;rw[U.o,Ra (by omega)]
   have J:0<cB d:=by rw[Q.o];exact j.o.2.2
   have G:=zJ f.o;obtain⟨g,z,m,N,W,T,I⟩:∃g z,P=cC g/\w.1.size<=g/\rB wr g z 190/\dP wr g 0 d/\cB d<=u:=by
    obtain⟨_,Y⟩|⟨g,n,z,s,N,hg,O,_⟩:=f.o.2;omega;simp only[mA.slice.injEq]at s;obtain h|⟨U,U,U,t',U,_,_,Y⟩:=G;rw[h]at J;exact absurd J (by simp);rw[s.1]at U;simp only[Qa,Addr.mk.injEq,Cc]at U;obtain⟨rfl,rfl⟩:=U;exact⟨g,z,s.1,N,hg,Y,by rw[s.2.2];exact O⟩
   have h:fB (lA prog 279 #[uA (cC g) (cB d) u,.func (.func 280) #[] #[]] wr λe D=>
    e=zA (bB #[])/\∃B,B.Perm d/\B.Pairwise Le/\qE D w.1.size (cC g) B/\Below w.1.size wr D):=haveI:=aFk;YT g u d wr w.1.size N W T (by omega)
   subst m;clear f G T W;go_wp2_with fail;apply oC h.o;rintro w2 ⟨B,h,hs,O,U⟩;have m:=VD j.o.2.1 (by rw[<-Q.o];exact h) hs;have W:fB (cB d=cB (kG [] c)):=by show _=_;rw[<-m,h.length_eq]
   have G:fB (qE w2 w.1.size (cC g) (kG [] c)):=by rw[<-m];exact O
   have J:fB _:=l.trans U;clear h hs O U m;go_wp2;refine bodyPost_ret (v:=bB #[uA (cC g) (cB d) u,dB 0,dB 0]) (by simp[results,results238,go_sem]) rfl ⟨cC g,u,?_,?_,?_,J.o⟩
   .rw[j.o.1,W.o];rfl
   .rw[j.o.1,<-W.o];exact I
   rw[j.o.1];exact G.o
 .have r:=M S;have j:fB _:=r;have h:(((eI c).1:Int) != 0)=iA:=by simp;omega
  clear L M S r;generalize (eI c).1=C at *;generalize (eI c).2=I at *;go_enter func238,ntmps238;go_wp2_with fail;apply oC y.o;intro w1 p;have K:fB _:=p;clear p y;go_wp2;refine bodyPost_ret (v:=bB #[uA none 0 0,dB C,dB I]) (by simp[results,results238,go_sem]) rfl ⟨none,0,?_,?_,?_,K.o⟩
  .rw[j.o];rfl
  .rw[j.o];exact Ia _
  rw[j.o];exact Ca rfl
def mT.tail{f:nB}{r:List nB}(h:mT (f::r)):mT r:=λi j a b=>by
 have:=h (i+1) (j+1) (by omega) (by simp;omega);simpa using this
def mT.head{f:nB}{r:List nB}(h:mT (f::r))(j:Nat)(a:j<cB r):Op.bytesLess f.N.toList r[j].N.toList=iA:=by
 have:=h 0 (j+1) (by omega) (by simp;omega);simpa using this
theorem bJ:∀{c:List nB}(t:vB),mT c->oT c t (gC t c)
 |[],t,_=>⟨Ia _,λj h=>absurd h (by simp),λj h=>absurd h (by simp)⟩
 |f::r,t,g=>by
  have e:=bJ t g.tail;unfold gC;by_cases b:Op.bytesLess f.N.toList t.toList=iA
  .rw[Ma b];refine⟨by simp;exact e.1,λj a k=>?_,λj a i=>?_⟩
   .cases j with
    |zero=>exact b
    |succ j=>simpa using e.2.1 j (by simpa using a) (by omega)
   cases j with
   |zero=>omega
   |succ j=>simpa using e.2.2 j (by simpa using a) (by omega)
  rw[Ja b];refine⟨Oa _,λj _ h=>absurd h (by omega),λj a _=>?_⟩;cases j with
  |zero=>simpa using b
  |succ j=>
   have d:j<cB r:=by simpa using a
   show Op.bytesLess r[j].N.toList t.toList=gA;rw[Yc];intro h;exact b (kJ _ _ _ (g.head j d) h)
def uN(a:nC)(d:Nat)(b:List nB)(t:vB)(w:jA)(j:wB w a b)(c:mT b)(f:cB b<=1048576):
 gF 147 #[uA a (cB b) d,tA t] w (bB #[dB (gC t b),vA (tH b t (gC t b))]):=by
 refine(lW a d b t w j c f).mono ?_;rintro e g ⟨i,k,rfl,h⟩;obtain rfl:=k.uniq (bJ t c);exact⟨rfl,h⟩
theorem AA{a:List nB}{t:vB}{i:Nat}(h:tH a t i=iA):∃b:i<cB a,a[i].N=t:=by grind [tH,toList_inj]
def yC(a:List nB)(t:vB):List nB:=a.filter λf=>!(f.N.toList==t.toList)
def mG:List nB->nB->List nB
 |[],f=>[f]
 |g::r,f=>if Op.bytesLess f.N.toList g.N.toList=iA then f::g::r else g::mG r f
def FX{a:List nB}{t:vB}(h:∀j(b:j<cB a),a[j].N≠t):yC a t=a:=by
 unfold yC;rw[Jc];intro f c;obtain⟨j,b,rfl⟩:=Ib c;simp only[Bool.not_eq_true',Ug,ne_eq];exact λe=>h j b (toList_inj e)
theorem gQ:∀{a:List nB}{i:Nat}(_:mT a)(g:i<cB a),yC a a[i].N=a.eraseIdx i
 |f::r,0,c,_=>by
  have e:yC (f::r) f.N=yC r f.N:=by simp[yC]
  show yC (f::r) f.N=r;rw[e];exact FX λj h e=>by
   have:=c.head j h;rw[e,iF]at this;exact absurd this (by simp)
 |f::r,i+1,c,g=>by
  have b:i<cB r:=by simpa using g
  have k:=gQ c.tail b;have d:(f.N.toList==(r[i]).N.toList)=gA:=by
   rw[Ug];intro e;have:=c.head i b;rw[e,iF]at this;exact absurd this (by simp)
  show yC (f::r) r[i].N=f::r.eraseIdx i;rw[<-k];simp[yC,d]
def mT.erase{a:List nB}(h:mT a)(i:Nat):mT (a.eraseIdx i):=by grind [mT]
def GR{a:List nB}{t:vB}(f:mT a)(g:tH a t (gC t a)=gA):∀j(b:j<cB a),a[j].N≠t:=by
 intro j b e;have i:=bJ t f;rcases Nat.lt_trichotomy j (gC t a) with h|h|h;have:=i.2.1 j b h;rw[e,iF]at this;exact absurd this (by simp)
 .have:tH a t j=iA:=by simp[tH,Va b,e]
  rw[<-h,this]at g;exact absurd g (by simp)
 have c:=i.2.2 (gC t a) (by omega) (Ia _);have d:=f (gC t a) j h b;rw[e]at d;rw[d]at c;exact absurd c (by simp)
theorem IC:∀{a:List nB}(f:nB),mT a->(∀j(k:j<cB a),a[j].N≠f.N)->mG a f=iM a (gC f.N a) f
 |[],f,_,_=>rfl
 |g::r,f,i,h=>by
  have l:=IC f i.tail (λj k=>by have:=h (j+1) (by simp;omega);simpa using this);unfold mG gC;by_cases b:Op.bytesLess g.N.toList f.N.toList=iA
  .rw[Ja (by rw[mP b];simp),Ma b,l];simp[iM]
  have d:g.N.toList≠f.N.toList:=λe=>h 0 (by simp) (toList_inj e);have c:=qL _ _ (by simpa using b) d;rw[Ma c,Ja b];rfl
theorem uu{a:List nB}{i:Nat}(b:i<cB a)(f:nB):iM (a.eraseIdx i) i f=a.set i f:=by
 rw[iM,List.eraseIdx_eq_take_drop_succ,List.set_eq_take_append_cons_drop,Ma b];have c:cB (a.take i)=i:=by rw[Hb];omega
 rw[List.take_append_of_le_length (by omega),Ra (by omega),List.drop_append_of_le_length (by omega),Ie (by omega),Mb]
theorem wg{b:List nB}{i:Nat}(c:mT b)(d:i<cB b):gC b[i].N (b.eraseIdx i)=i:=by
 refine(bJ _ (c.erase i)).uniq ⟨by rw[Ad,Ma d];omega,λj e a=>?_,λj e f=>?_⟩;rw[List.getElem_eraseIdx,dif_pos a];exact c j i a d;rw[List.getElem_eraseIdx,dif_neg (by omega)];rw[Ad,Ma d]at e;exact mP (c i (j+1) (by omega) (by omega))
def tG(a:List nB)(f:nB):List nB:=mG (yC a f.N) f
def vV{a:List nB}{f:nB}(b:mT a)(d:tH a f.N (gC f.N a)=gA):tG a f=iM a (gC f.N a) f:=by
 have c:=GR b d;unfold tG;rw[FX c];exact IC f b c
theorem FW{a:List nB}{f:nB}{i:Nat}(b:mT a)(d:i<cB a)(c:a[i].N=f.N):tG a f=a.set i f:=by grind [mT,tG,gQ,iF,IC,wg,uu]
def cc{W w d:jA}{B:Nat}{e:oA}{a:Nat}{v:mA}{n:Nat}{l:List mA}(h:w.ownsRow B e a v n l)(j:Below B W w)(c:B<=w.1.size)(b:w.grownBy d v.ownBlock):Below B W d:=
 j.trans ((iE.grown (S:=λk=>v.ownBlock=fA k) b (λ_ h=>h)).below (λg b=>by
  obtain⟨rfl,_⟩|⟨m,f,i,rfl,o,_⟩:=h.2;simp[mA.ownBlock]at b;simp[mA.ownBlock]at b;omega) c)
def aBx(W:jA)(x:Obj)(cs:Array mA)(t:oA):∀j u,cs.toList[j]?=fA u->((W.alloc x).alloc (aB cs t)).cell? (((iB (W.1.size+1) 0):Addr).add j)=fA u:=
 jA.news_of_block (fr:=(0,0)) (by have h:=heap_alloc_new (W.alloc x) (aB cs t);simpa using h)
def ZS(l:List nB)(f:nB)(t:vB):yC (l++[f]) t=yC l t++(if (f.N.toList==t.toList)=iA then [] else [f]):=by grind [yC]
def lT(l:List nB)(t:vB):cB (yC l t)<=cB l:=Pc _ _
def BA(a:nC)(B:Nat)(c:List nB)(t:vB)(w:jA)(H:wB w a c)(I:cB c<=1048576):
 lA prog 202 #[uA a (cB c) B,tA t] w λe K=>∃v,e=zA v/\K.ownsRow w.1.size 115 3 v (cB (yC c t)) (flat (yC c t))/\zB w K:=by
 have L:fB (wB w a c):=H;clear H;obtain⟨Q,s,C,D,E⟩:=mL;have M:fB _:=s;clear s;go_enter func202,ntmps202;go_wp2;go_loopw [5,7,11] (λo _ i wr=>∃(j:Nat)(m:nC)(n p:Nat),j<=cB c/\i=dB j/\o=uA m n p/\n=cB (yC (c.take j) t)/\wr.ownsRow w.1.size 115 3 (uA m n p) n (flat (yC (c.take j) t))/\zB w wr) (λ_ _ i _=>cB c-(intOf i).toNat)
 case atStart=>exact⟨0,_,0,0,Oa _,rfl,rfl,rfl,⟨rfl,La ⟨w.1.size,0,#[],rfl,Ia _,heap_alloc_new _ _,Ia _,Oa _,rfl,rfl⟩⟩,aC⟩
 case round=>
  obtain⟨j,m,n,p,W,rfl,rfl,r,k,d⟩:=hrel;have u:fB (wr.ownsRow w.1.size 115 3 (uA m n p) n (flat (yC (c.take j) t))):=k;have y:fB _:=r;have P:n<=1048576:=by have:=lT (c.take j) t;rw[Hb]at this;omega
  clear k r;by_cases q:j<cB c
  .obtain ⟨b,o,rfl,V,R,S,T⟩:=(L.o.z d).at q;have z:fB (yC (c.take (j+1)) t=yC (c.take j) t++(if (c[j].N.toList==t.toList)=iA then [] else [c[j]])):=by
    show _=_;rw[Pa q,ZS]
   by_cases x:(c[j].N.toList==t.toList)=iA
   .have f:fB (yC (c.take (j+1)) t=yC (c.take j) t):=by show _=_;rw[z.o,Ma x];simp
    go_wp2;exact⟨⟨j+1,m,n,p,by omega,by go_num,rfl,by rw[f.o];exact y.o,by rw[f.o];exact lC u.o aC,xB d aC⟩,by simp[intOf];omega⟩
   have O:(c[j].N.toList==t.toList)=gA:=by simpa using x
   have f:fB (yC (c.take (j+1)) t=yC (c.take j) t++[c[j]]):=by show _=_;rw[z.o,Ja x]
   have A:fB (zB wr ((wr.alloc (aB #[tA c[j].N,tA c[j].data,dB c[j].Y] 115)).alloc (aB #[tA c[j].N,tA c[j].data,dB c[j].Y] 115))):=xB aC aC;clear x z;go_wp2_with(at_builtin;refine wpList_append_lies _ rfl _ _ _ rfl w.1.size 115 Q _ 3 40 underlying33 M.o C D E rfl (by omega) (uA m n p) n (flat (yC (c.take j) t)) rfl (by exact lC u.o A.o) (iB (wr.1.size+1) 0) 1 1 [tA c[j].N,tA c[j].data,dB c[j].Y] rfl rfl (by exact aBx _ _ #[tA c[j].N,tA c[j].data,dB c[j].Y] _) (by simp[mA.oneCell']) (by omega) (by simp[maxLen];omega) (by omega) (by have:=d.size;simp;omega) (wr.1.size+1+1) (by simp) ?_;intro U F X l g G J);refine⟨⟨j+1,_,n+1,_,by omega,by go_num,rfl,by rw[f.o,Kb,<-y.o];rfl,?_,?_⟩,by simp[intOf];omega⟩
   .rw[f.o,flat_append,tY];exact l
   exact cc (lC u.o A.o) (xB d A.o) (by have:=d.size;simp;omega) g
  .go_wp2;go_ret;have N:j=cB c:=by omega
   have h:=u.o;have r:=y.o;rw[N,Rb]at h r;subst r;exact⟨_,rfl,h,d⟩
def xT:∀{l:List nB}{f:nB}(r:List nB),(l.any λg=>Op.bytesLess f.N.toList g.N.toList)=iA->mG (l++r) f=mG l f++r
 |[],_,_,h=>by simp at h
 |g::l,f,r,h=>by
  show mG (g::(l++r)) f=_;unfold mG;by_cases a:Op.bytesLess f.N.toList g.N.toList=iA
  .rw[Ma a,Ma a];rfl
  rw[Ja a,Ja a,xT r (by simpa[a]using h)];rfl
def zQ:∀{l:List nB}{f:nB}(r:List nB),(l.any λg=>Op.bytesLess f.N.toList g.N.toList)=gA->mG (l++r) f=l++mG r f
 |[],_,_,_=>rfl
 |g::l,f,r,h=>by
  simp only[List.any_cons,Bool.or_eq_false_iff]at h;show mG (g::(l++r)) f=_;rw[mG,Ja (by rw[h.1];simp),zQ r h.2];rfl
def qH(a:List nB)(f:nB)(j:Nat):Bool:=(a.take j).any λg=>Op.bytesLess f.N.toList g.N.toList
def vL(a:List nB)(f:nB)(j:Nat):List nB:=if qH a f j=iA then mG (a.take j) f else a.take j
def mM{a:List nB}{f:nB}{j:Nat}(h:j<cB a):qH a f (j+1)=(qH a f j||Op.bytesLess f.N.toList a[j].N.toList):=by
 unfold qH;rw[Pa h,Tf];simp only[List.any_cons,List.any_nil,Bool.or_false]
def fg{a:List nB}{f:nB}{j:Nat}(h:j<cB a)(b:qH a f j=iA):vL a f (j+1)=vL a f j++[a[j]]:=by
 unfold vL;rw[Ma b,Ma (by rw[mM h,b];rfl),Pa h];exact xT _ b
def aCl{a:List nB}{f:nB}{j:Nat}(h:j<cB a)(c:qH a f j=gA)(b:Op.bytesLess f.N.toList a[j].N.toList=iA):vL a f (j+1)=vL a f j++[f]++[a[j]]:=by
 have d:qH a f (j+1)=iA:=by rw[mM h,b];simp
 have e:vL a f (j+1)=mG (a.take (j+1)) f:=Ma d;have g:vL a f j=a.take j:=Ja (by rw[c];simp);rw[e,g,Pa h,zQ _ c];simp[mG,b]
def aCk{a:List nB}{f:nB}{j:Nat}(h:j<cB a)(b:qH a f j=gA)(g:Op.bytesLess f.N.toList a[j].N.toList=gA):vL a f (j+1)=vL a f j++[a[j]]:=by
 have c:qH a f (j+1)=gA:=by rw[mM h,b,g];rfl
 have d:vL a f (j+1)=a.take (j+1):=Ja (by rw[c];simp);have e:vL a f j=a.take j:=Ja (by rw[b];simp);rw[d,e,Pa h]
def aCj{a:List nB}{f:nB}(b:qH a f (cB a)=gA):mG a f=vL a f (cB a)++[f]:=by
 unfold vL;rw[Ja (by rw[b];simp)];unfold qH at b;rw[Rb]at b |-
 have:=zQ (f:=f) [] b;rw[Cd]at this;rw[this];rfl
def aCi{a:List nB}{f:nB}(b:qH a f (cB a)=iA):mG a f=vL a f (cB a):=by
 unfold vL;rw[Ma b,Rb]
def ff(b:List nB)(f:nB)(j:Nat):cB (vL b f j)<=j+1:=by
 have a:∀(l:List nB),cB (mG l f)=cB l+1:=λl=>by
  induction l with
  |nil=>rfl
  |cons g r c=>unfold mG;split<;>simp[c]
 unfold vL;split;rw[a,Hb];omega;rw[Hb];omega
def xF:List vB->vB
 |[]=>pA
 |x::r=>x++xF r
def oG:∀(a b:List vB),xF (a++b)=xF a++xF b
 |[],b=>by simp[xF]
 |x::r,b=>by
  show x++xF (r++b)=x++xF r++xF b;rw[oG r b,Wa]
def zj(a:List vB):(xF a).data.toList=(a.map (·.data.toList)).flatten:=by
 induction a with
 |nil=>rfl
 |cons x r b=>simp[xF,b]
def ds(a:List vB):Lib.join (a.map (·.data.toList)) ByteArray.empty.data.toList=(xF a).data.toList:=by
 have e:ByteArray.empty.data.toList=[]:=rfl;rw[zj,e];cases a with
 |nil=>rfl
 |cons x r=>
  rw[Fc,Lib.join_cons,Lib.joinTail];simp;rfl
def aEe(a:List vB):(⟨(Lib.join (a.map (·.data.toList)) ByteArray.empty.data.toList).toArray⟩:vB)=xF a:=by
 rw[ds]
def jG:List vB->Nat
 |[]=>0
 |x::r=>x.size+jG r
def GL:∀(a:List vB),(xF a).size=jG a
 |[]=>rfl
 |x::r=>by rw[xF,Ka,GL r,jG]
def vH:∀(a b:List vB),jG (a++b)=jG a+jG b
 |[],b=>by simp[jG]
 |x::r,b=>by show x.size+jG (r++b)=x.size+jG r+jG b;rw[vH r b];omega
def CE(n:Nat)(w:jA):gF 28 #[dB (n:Nat)] w (tA (uB 1 (n:Nat))):=by
 have d:fB (∀W,gF 91 #[dB (n:Nat),dB 1] W (tA (uB 1 (n:Nat)))):=λW=>oH 1 (n:Nat) W (by omega);generalize uB 1 (n:Nat)=N at *;go_enter func28,ntmps28;go_wp2_with fail;apply oC (d.o _);intro f a;have c:fB _:=a;clear a;go_wp2;go_ret;exact⟨rfl,c.o⟩
def mI(g n b:Nat)(a:List vB)(w:jA)(p:n=cB a)(i:∀(j:Nat) x,a[j]?=fA x->w.cell? (iB g (0+j))=fA (tA x))(o:g<w.1.size)(d:cB a<=b)(q:cB a<=1000000000)(k:jG a<=140737488355328):
 gF 108 #[uA (cC g) n b] w (tA (xF a)):=by
 subst p;have m:fB (gF 184 #[uA (cC g) (cB a) b,tA pA] w (tA (xF a))):=by
  have h:=strings_Join g 0 b a pA w i o (by omega) d (by rw[ds,<-Lib.size_eq,GL];exact k);rw[aEe]at h;exact h
 clear i k;generalize xF a=C at *;generalize cB a=n at *;go_enter func108,ntmps108;go_wp2_with fail;apply oC m.o;intro r c;have l:fB _:=c;clear c;go_wp2;go_ret;exact⟨rfl,l.o⟩
def VJ{W:jA}{x y:vB}{t:oA}:∀(j:Nat) z,[x,y][j]?=fA z->(W.alloc (aB #[tA x,tA y] t)).cell? (iB W.1.size (0+j))=fA (tA z):=by
 intro j z h;rw[cell_of_row _ W.1.size _ _ _ _ (heap_alloc_new _ _),Ya];match j,h with
 |0,h=>simp at h;simp[h]
 |1,h=>simp at h;simp[h]
 |j+2,h=>simp at h
def sS(s:vB)(w:jA)(j:s.size<=1000000000):gF 116 #[tA s] w (tA (vM s)):=by
 have i:fB _:=λW=>CE s.size W;have k:=oB 1 (s.size:Nat);unfold vM;generalize uB 1 (s.size:Nat)=N at *;have g:fB (∀W:jA,gF 108 #[uA (cC W.1.size) 2 2] (W.alloc (aB #[tA N,tA s] 9)) (tA (N++s))):=λW=>by
  have h:=mI W.1.size 2 2 [N,s] (W.alloc (aB #[tA N,tA s] 9)) rfl VJ (by simp) (by simp) (by simp) (by simp[jG];omega);have e:xF [N,s]=N++s:=by simp[xF]
  rw[e]at h;exact h
 go_enter func116,ntmps116;go_wp2_with fail;apply oC (i.o _);intro l a;have f:fB _:=a;clear a;go_wp2_with fail;apply oC (g.o _);intro m b;have c:fB _:=xB (xB f.o aC) b;clear b;go_wp2;go_ret;exact⟨rfl,c.o⟩
def jL(s:vB)(w:jA)(j:s.size<=1000000000):gF 117 #[tA s] w (tA (eG s)):=by
 have i:fB (∀W,gF 91 #[dB (s.size:Nat),dB 2] W (tA (uB 2 (s.size:Nat)))):=λW=>oH 2 (s.size:Nat) W (by omega);have k:=oB 2 (s.size:Nat);unfold eG;generalize uB 2 (s.size:Nat)=N at *;have g:fB (∀W:jA,gF 108 #[uA (cC W.1.size) 2 2] (W.alloc (aB #[tA N,tA s] 9)) (tA (N++s))):=λW=>by
  have h:=mI W.1.size 2 2 [N,s] (W.alloc (aB #[tA N,tA s] 9)) rfl VJ (by simp) (by simp) (by simp) (by simp[jG];omega);have e:xF [N,s]=N++s:=by simp[xF]
  rw[e]at h;exact h
 go_enter func117,ntmps117;go_wp2_with fail;apply oC (i.o _);intro l a;have f:fB _:=a;clear a;go_wp2_with fail;apply oC (g.o _);intro m b;have d:fB _:=xB (xB f.o aC) b;clear b;go_wp2;go_ret;exact⟨rfl,d.o⟩
def ws{w:jA}{B:Nat}{e:oA}{a:Nat}{v:mA}{n:Nat}{xs:List mA}(h:w.ownsRow B e a v n xs):∀g,v.ownBlock=fA g->B<=g:=by
 intro g b;obtain⟨rfl,_⟩|⟨i,cap,c,rfl,d,_⟩:=h.2;simp[mA.ownBlock]at b;simp[mA.ownBlock]at b;subst b;exact d
def rW:(prog.info? 115).map (λi=>(i.zero,i.size,i.bytes))=fA (fA (.agg #[tA pA,tA pA,dB 0]),3,40):=by kernel_rfl
structure WI(w wr:World)(C:Nat)(a1:nC)(es:List nB)(f:nB)(av:nC)(n cv:Nat)(xs:List Value):Prop where
 row:wr.ownsRow (w.1.size+1) 115 3 (uA av n cv) n xs
 ap:∀b o,a1=fA (iB b o)→fA b≠(mA.slice av n cv).ownBlock∧b<C
 sz:C≤wr.1.size
 fi:wB wr a1 es
 fb:rB wr w.1.size #[tA f.N,tA f.data,dB f.Y] 115
 bel:zB w wr
section
variable {w wr w':jA} {C n cv g cap:Nat} {a1 av:nC} {es:List nB} {f:nB} {xs ys:List mA}
theorem WI.z(h:WI w wr C a1 es f av n cv xs)(a:zB wr w'):WI w w' C a1 es f av n cv xs:=⟨lC h.row a,h.ap,Ua h.sz a.size,h.fi.z a,h.fb.z a,xB h.bel a⟩
theorem WI.app(h:WI w wr C a1 es f av n cv xs)(O:fB (w'.ownsRow (w.1.size+1) 115 3 (uA (cC g) (n+1) cap) (n+1) ys))(T:fB (jB (λi=>w.1.size+1<=i/\(mA.slice av n cv).ownBlock=fA i) wr w'))(c:fB ((mA.slice av n cv).ownBlock=fA g\/wr.1.size<=g)):WI w w' C a1 es f (cC g) (n+1) cap ys:=by
 have r:=eB h.fb;refine⟨O.o,λb o e=>⟨λk=>?_,(h.ap b o e).2⟩,Ua h.sz T.o.size,?_,T.o.blk h.fb (by omega),h.bel.trans (T.o.below (by omega) λi m e=>by omega)⟩
 .have:=(h.ap b o e).2;have:=h.sz;simp only[mA.ownBlock,Qa]at k;subst k;obtain l|l:=c.o
  .exact (h.ap b o e).1 l.symm
  omega
 obtain d|⟨b,o,rfl,a,d⟩:=h.fi;exact Ca d;have p:=T.o.block b a λe=>(h.ap b o rfl).1 e.2.symm;have q:∀j,w'.cell? (iB b j)=wr.cell? (iB b j):=λj=>jA.cell?_of_block p;exact La ⟨b,o,rfl,Bb a T.o.size,λi m=>by simp only[q];exact d i m⟩
end
def lr(a:nC)(cap:Nat)(k:List nB)(f:nB)(w:jA)(W:wB w a k)(K:cB k<=1048576):
 lA prog 201 #[uA a (cB k) cap,.agg #[tA f.N,tA f.data,dB f.Y]] w λe w'=>∃v,e=zA v/\w'.ownsRow w.1.size 115 3 v (cB (tG k f)) (flat (tG k f))/\zB w w':=by
 have h:=gB W;clear W;go_enter func201,ntmps201;go_wp2_with fail;refine(BA a cap k f.N _ ((h.o.z aC).z aC) K).mono ?_;rintro e S ⟨v1,rfl,c,u⟩;obtain⟨a1,T,rfl,q⟩:=pH c;have h:=lT k f.N;have H:fB (tG k f=mG (yC k f.N) f):=rfl;generalize yC k f.N=es at *;have G:fB (WI w S S.1.size a1 es f (cC (w.1.size+1)) 0 0 []):=by
  have h:=rB.z (w:=(w.alloc (aB #[tA f.N,tA f.data,dB f.Y] 115)).alloc (aB #[] 115)) (g:=(w.alloc (aB #[tA f.N,tA f.data,dB f.Y] 115)).1.size) (heap_alloc_new _ _) u;refine⟨⟨rfl,La ⟨w.1.size+1,0,#[],rfl,Ia _,by show rB _ _ _ _;simpa using h,Ia _,Oa _,rfl,rfl⟩⟩,λb o e=>?_,Ia _,q.files,(rB.z (rB.z (g:=w.1.size) (heap_alloc_new w (aB #[tA f.N,tA f.data,dB f.Y] 115)) jD) aC).z u,xB (xB aC aC) u⟩;have m:=(ws c) b (by rw[e];rfl);have C:=(aH c) b (by rw[e];rfl);simp at m;exact⟨by simp[mA.ownBlock];omega,C⟩
 clear c q u;go_wp2;go_loopw [5,6,8,15] (λo p _ i wr=>∃(j:Nat)(av:nC)(n cv:Nat),j<=cB es/\i=dB j/\o=uA av n cv/\p=vA (qH es f j)/\n=cB (vL es f j)/\fB (WI w wr S.1.size a1 es f av n cv (flat (vL es f j)))) (λ_ _ _ i _=>cB es-(intOf i).toNat)
 case atStart=>exact⟨0,_,0,0,Oa _,rfl,rfl,rfl,rfl,G.o⟩
 case round=>
  obtain⟨j,av,n,cv,m,rfl,rfl,rfl,X,m⟩:=hrel;have M:=gB X;have C:n<=1048577:=by have:=ff es f j;omega
  have R:=eB m.o.fb;have C:gD wr w.1.size 0 (tA f.N):=m.o.fb.cell 0;have C:gD wr w.1.size 1 (tA f.data):=m.o.fb.cell 1;have C:gD wr w.1.size 2 (dB f.Y):=m.o.fb.cell 2;clear X G;by_cases d:j<cB es
  .obtain ⟨b,o,rfl,hb,c0,c1,c2⟩:=m.o.fi.at d;have t:=gB (m.o.z (uF wr (aB #[tA es[j].N,tA es[j].data,dB es[j].Y] 115)));have P:fB (rB (wr.alloc (aB #[tA es[j].N,tA es[j].data,dB es[j].Y] 115)) wr.1.size #[tA es[j].N,tA es[j].data,dB es[j].Y] 115):=heap_alloc_new _ _;have J:w.1.size+1<=(wr.alloc (aB #[tA es[j].N,tA es[j].data,dB es[j].Y] 115)).1.size:=by simp;omega
   have A:(qH es f j=gA/\Op.bytesLess f.N.toList es[j].N.toList=iA/\Op.bytesLess es[j].N.toList f.N.toList=gA/\(es[j].N.toList==f.N.toList)=gA)\/qH es f (j+1)=qH es f j/\vL es f (j+1)=vL es f j++[es[j]]/\(qH es f j=iA\/qH es f j=gA/\Op.bytesLess f.N.toList es[j].N.toList=gA/\(Op.bytesLess es[j].N.toList f.N.toList=iA\/(es[j].N.toList==f.N.toList)=iA)):=by
    cases l:qH es f j
    .cases r:Op.bytesLess f.N.toList es[j].N.toList
     .refine La ⟨by rw[mM d,l,r];rfl,aCk d l r,La ⟨rfl,rfl,?_⟩⟩;by_cases e:es[j].N.toList=f.N.toList
      .right;simpa using e
      left;exact qL _ _ r (Ne.symm e)
     exact Ca ⟨rfl,rfl,mP r,by rw[Ug];intro e;rw[e,iF]at r;exact absurd r (by simp)⟩
    exact La ⟨by rw[mM d,l];rfl,fg d l,Ca rfl⟩
   obtain⟨l,r,o,o⟩|⟨L,Y,A⟩:=A
   .have F:=gB (aCl d l r);have N:fB (qH es f (j+1)=iA):=by show _=_;rw[mM d,r];simp
    go_wp2_with(first
     |(at_builtin;refine gI rfl _ _ rfl underlying33 rW rfl (by omega) (by omega) rfl t.o.row rfl (by simp) (cs:=#[tA f.N,tA f.data,.int .i64 f.Y]) rfl (by simp[mA.oneCell']) (by omega) (by exact J) ?_;intro V y D I B E;have z:=gB (t.o.app I B E);have x:=B.o.blk P.o (λe=>absurd (aH m.o.row _ e.2) (by omega));have o:gD D wr.1.size 0 (tA es[j].N):=x.cell 0;have o:gD D wr.1.size 1 (tA es[j].data):=x.cell 1;have o:gD D wr.1.size 2 (.int .i64 es[j].Y):=x.cell 2;have Q:w.1.size+1<=D.1.size:=eB z.o.fb;clear x)
     |(at_builtin;refine gI rfl _ _ rfl underlying33 rW rfl (by omega) (by omega) rfl z.o.row rfl rfl (cs:=#[tA es[j].N,tA es[j].data,.int .i64 es[j].Y]) rfl (by simp[mA.oneCell']) (by omega) (by exact Q) ?_;intro o U o o C Z))
    refine⟨⟨j+1,_,n+1+1,_,by omega,by go_num,rfl,by rw[N.o],by rw[F.o,Kb,Kb,<-M.o];rfl,?_⟩,by simp[intOf];omega⟩;rw[F.o,flat_append,flat_append,tY,tY];exact gB (z.o.app o C Z)
   have F:=gB Y;have N:=gB L;clear Y L;obtain l|⟨l,r,o|o⟩:=A
   all_goals
    rw[l]at N;go_wp2_with(at_builtin;refine gI rfl _ _ rfl underlying33 rW rfl (by omega) (by omega) rfl t.o.row rfl (by simp) (cs:=#[tA es[j].N,tA es[j].data,dB es[j].Y]) rfl (by simp[mA.oneCell']) (by omega) (by exact J) ?_;intro V y D I B E);refine⟨⟨j+1,_,n+1,_,by omega,by go_num,rfl,by rw[N.o],by rw[F.o,Kb,<-M.o];rfl,?_⟩,by simp[intOf];omega⟩;rw[F.o,flat_append,tY];exact gB (t.o.app I B E)
  have s:fB (j=cB es):=by show _=_;omega
  cases l:qH es f j
  .have O:fB (tG k f=vL es f j++[f]):=by show _=_;rw[H.o,s.o];exact aCj (by rw[<-s.o];exact l)
   go_wp2_with(at_builtin;refine gI rfl _ _ rfl underlying33 rW rfl (by omega) (by omega) rfl m.o.row rfl rfl (cs:=#[tA f.N,tA f.data,dB f.Y]) rfl (by simp[mA.oneCell']) (by omega) (by exact R) ?_;intro V y D I B E);go_ret;rw[O.o,Kb,<-M.o,flat_append,tY];have h:=m.o.app I B E;exact⟨_,rfl,PJ (B':=w.1.size) h.row (by omega),h.bel⟩
  have O:fB (tG k f=vL es f j):=by show _=_;rw[H.o,s.o];exact aCi (by rw[<-s.o];exact l)
  go_wp2;go_ret;rw[O.o,<-M.o];exact⟨_,rfl,PJ (B':=w.1.size) m.o.row (by omega),m.o.bel⟩
def FI{P:Program}(w:jA){t a:oA}{e:Array (String×oA)}(b:vB)(c:P.underlying t=fA (.interface e)):
 (binOp .eql t .nilIface (.iface a (tA b))).run P w=.ok (vA gA) w:=by
 have h:∀d:Nat,(Op.equalIn (d+2) t .nilIface (.iface a (tA b))).run P w=.ok gA w:=λd=>by
  simp[Op.equalIn,run_underlying c]
 simp only[binOp];simp[Op.equal,Op.maxDepth,h 9998]
def aIz(b:vB)(w:jA):
 bM 84 #[.nilIface,.iface 162 (tA b)] w (vA gA):=by
 have a:(binOp .eql 76 .nilIface (.iface 162 (tA b))).run prog w=.ok (vA gA) w:=FI w b underlying76;go_enter func84,ntmps84;go_wp2;go_ret;exact⟨rfl,rfl⟩
def bq(x:Int)(w:jA):bM 196 #[dB x] w (vA (dC x 1 60000)):=by
 by_cases a:1<=x
 .by_cases b:x<=60000
  .have e:dC x 1 60000=iA:=by simp[dC,a,b]
   rw[e];go_enter func196,ntmps196;go_wp2;go_ret;exact⟨rfl,rfl⟩
  have e:dC x 1 60000=gA:=by simp[dC,b]
  rw[e];go_enter func196,ntmps196;go_wp2;go_ret;exact⟨rfl,rfl⟩
 have e:dC x 1 60000=gA:=by simp[dC,a]
 rw[e];go_enter func196,ntmps196;go_wp2;go_ret;exact⟨rfl,rfl⟩
