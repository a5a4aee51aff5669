import Derived.Test.YtiegonaogehghaaGreatDoorJ09
import Derived.Test.YtiegonaogehghaaGreatDoorJ10
set_option maxRecDepth 100000
set_option maxHeartbeats 4000000
set_option linter.defProp false
open Bool renaming false->cA,true->dA
open Option renaming some->bA
open ByteArray renaming empty->kA
open List renaming length->yA
namespace Go.Proofs.YtiegonaogehghaaGreatDoor
open Go renaming World->eA,Value->iA,Calls->gA,TypeId->jA
open Value renaming string->oA,bool->qA,slice->pA,tuple->xA
open Obj renaming cells->vA
open Ending renaming returned->uA
open Go.RowKit Tryz
def YH(s:nB)(w:eA)(o:s.size<=maxLen):
 hI 323 #[oA s] w (qA (PH s)):=by
 unfold maxLen at o;by_cases d:1<=s.size/\s.size<=64
 .have q:¬((s.size:Int)<1):=by omega
  go_enter func323,ntmps323;go_wp2;apply wp_scope_straight;go_wp2;apply wp_label;go_wp2;go_loop [3,4,20,35] (λi _ _ _=>∃j:Nat,j<=s.size/\i=zA j/\bB (∀k,k<j->BA s k)) (λi _ _ _=>s.size-(intOf i).toNat)
  case atStart=>exact⟨0,Oa _,rfl,λk m=>absurd m (by omega)⟩
  case round=>
   obtain⟨j,x,rfl,b⟩:=hrel;by_cases a:j<s.size
   .have n:s[j].toNat<256:=s[j].toNat_lt;have c:bB (s[j].toNat=vC s j):=cV s j a;have l:((j:Int)==(s.size:Int))=cA:=by simp;omega
    by_cases u:s[j].toNat=95
    .have g:((s[j].toNat:Int)==95)=dA:=by simp;omega
     go_wp2;all_goals
      refine⟨⟨j+1,by omega,by go_num,?_⟩,by simp[intOf];omega⟩;show ∀k,_;intro k m;by_cases e:k=j
      .subst e;unfold BA bY;rw[<-c.o];omega
      exact b.o k (by omega)
    have g:((s[j].toNat:Int)==95)=cA:=by simp;omega
    go_wp2;all_goals first
     |(go_ret
       refine⟨oB (lV ?_).symm,rfl⟩;intro h;have:=h.2.2 j a;unfold BA bY NL at this;rw[<-c.o]at this;omega)
     |(refine⟨⟨j+1,by omega,by go_num,?_⟩,by simp[intOf];omega⟩
       show ∀k,_;intro k m
       by_cases e:k=j
       .subst e
        unfold BA bY NL;rw[<-c.o];omega
       exact b.o k (by omega))
   have l:((j:Int)==(s.size:Int))=dA:=by simp;omega
   go_wp2;go_ret;exact⟨oB (VG ⟨by omega,by omega,λi v=>b.o i (by omega)⟩).symm,rfl⟩
 have E:bB (PH s=cA):=lV (λh=>d ⟨h.1,h.2.1⟩);by_cases r:(s.size:Int)<1
 .clear d;go_enter func323,ntmps323;go_wp2;apply wp_scope_straight;go_wp2;rw[Exit.noGoto_ret];show bodyPost prog f323 _ Exit.ret _ _;go_ret;exact⟨oB E.o.symm,rfl⟩
 have t:(64:Int)<s.size:=by omega
 clear d;go_enter func323,ntmps323;go_wp2;apply wp_scope_straight;go_wp2;rw[Exit.noGoto_ret];show bodyPost prog f323 _ Exit.ret _ _;go_ret;exact⟨oB E.o.symm,rfl⟩
def kU(x:bC):List iA:=[oA x.N,oA x.V]
def RZ(l:bC)(w:eA)(m:l.N.size<=1000000000)(f:l.V.size<=1000000000)(c:bH w):
 vE 298 #[.agg #[oA l.N,oA l.V]] w (zA (tQ l:Nat)):=by
 have j:bB (bH w):=c;have b:bB _:=λW=>YH l.N W (by unfold maxLen;omega);have k:bB _:=λW h=>KA l.V W f h;clear c m f;by_cases h:PH l.N=dA
 .have E:bB (tQ l=cP l.V):=by show _=_;rw[tQ,Ma h]
  rw[E.o];have a:bB _:=h;clear h E;generalize l.N=n at *;generalize l.V=g at *;generalize cP g=V at *;go_enter func298,ntmps298;go_wp2_with fail;apply hC (b.o _);intro p e;rw[a.o];replace e:=e.symm;subst e;go_wp2_with fail;apply hC (k.o _ (j.o.z yB));intro q d;have i:bB _:=vB yB d;clear d;go_wp2;go_ret;exact⟨rfl,i.o⟩
 have a:bB (PH l.N=cA):=by show _=_;simpa using h
 have E:bB (tQ l=41):=by show _=_;rw[tQ,Ja h]
 rw[E.o];clear h E;generalize l.N=n at *;generalize l.V=g at *;go_enter func298,ntmps298;go_wp2_with fail;apply hC (b.o _);intro p e;rw[a.o];replace e:=e.symm;subst e;go_wp2;go_ret;exact⟨rfl,yB⟩
def xg(t:nB)(B:Nat)(w:eA)(c:B<w.1.size)(a:w.cell? (dB B 0)=bA (oA t)):
 PredBelow prog 324 #[.pointer (pB B)] (λx=>.agg (kU x).toArray) (λx:bC=>x.N.toList==t.toList) w:=λW x b=>by
 have e:=(b.cell (p:=(dB B 0)) c).trans a;have d:=Bb c b.size;show gA prog 324 #[.agg #[oA x.N,oA x.V],.pointer (pB B)] W _;go_enter func324,ntmps324;go_wp2;go_ret;exact⟨rfl,b.alloc b.size _⟩
def du(b o n c:Nat)(f:List bC)(t:nB)(w:eA)(u:b<w.1.size)(l:kP w b o f)(s:n<=yA f)(m:yA f<=2000000):
 vE 299 #[pA (bA (dB b o)) n c,oA t] w (qA ((f.take n).any λx=>x.N.toList==t.toList)):=by
 have q:∀args w,(callFunc 324 args).run prog w=.ok (.enter 324 args) w:=enters_of func324 (by kernel_rfl) rfl;haveI:=aHo
 have a:=AnyQ.slices_ContainsFunc contL 2 isAgg181 sizeOf181 kU (λ_=>rfl) (λx:bC=>x.N.toList==t.toList) 324 #[.pointer (pB w.1.size)] q b o n c f (w.alloc (vA #[oA t] 9))
  (xg t w.1.size _ (by simp) (by simp)) s (by omega) (by simp;omega) (λj k i v d=>by
   refine Lib.cell?_alloc_some _ ?_;have h:=l j k;have e:f[j]! = f[j]:=getElem!_pos f j k;rw[e]at d;match i,d with
   |0,d=>simp[kU]at d;rw[<-d];exact h.1
   |1,d=>simp[kU]at d;rw[<-d];exact h.2
   |i+2,d=>simp[kU]at d)
 change gA prog 216 _ _ _ at a;clear l;generalize ((f.take n).any λx=>x.N.toList==t.toList)=r at a |-
 go_enter func299,ntmps299;go_wp2_with(go_at_call 216;apply hC a;intro p g);go_ret;exact⟨rfl,((Below.refl _ w).alloc (Ia _) _).trans (g.mono (by simp))⟩
def PT:PR.toList=[95,95,110,97,109,101,95,95]:=by rw[PR,ByteArray.toList_eq]
def FC(a:jC)(l:Nat)(c:List bC)(w:eA)(p:nD w a c)(q:yA c<=2000000):
 vE 261 #[pA a (yA c) l] w (oA (eL c)):=by
 have s:bB (nD w a c):=p;clear p;go_enter func261,ntmps261;go_wp2;go_loopw [4,7] (λ_ i wr=>∃k:Nat,k<=yA c/\i=zA k/\bB (eL c=eL (c.drop k))/\tB w wr) (λ_ i _=>yA c-(intOf i).toNat)
 case atStart=>exact⟨0,Oa _,rfl,rfl,bD⟩
 case round=>
  obtain⟨k,z,rfl,j,d⟩:=hrel;by_cases g:k<yA c
  .obtain ⟨b,o,rfl,y,v,x⟩:=(s.o.z d).at g;have h:=VE c k g;have n:bB (iP c[k]=(c[k].N.toList==[95,95,110,97,109,101,95,95])):=by show _=_;rw[iP,PT]
   generalize c[k].N=r at *;by_cases f:iP c[k]=dA
   .have m:(r.toList==[95,95,110,97,109,101,95,95])=dA:=by rw[<-n.o];exact f
    have E:bB (eL c=c[k].V):=by show _=_;rw[j.o,h,Ma f]
    clear h f;generalize c[k].V=t at *;go_wp2;go_ret;exact⟨by rw[E.o];rfl,vB d yB⟩
   have m:(r.toList==[95,95,110,97,109,101,95,95])=cA:=by rw[<-n.o];simpa using f
   have E:bB (eL c=eL (c.drop (k+1))):=by show _=_;rw[j.o,h,Ja f]
   clear h f;generalize c[k].V=t at *;go_wp2;exact⟨⟨k+1,by omega,by go_num,E.o,vB d yB⟩,by simp[intOf];omega⟩
  have E:bB (eL c=kA):=by
   show _=_;rw[j.o,Yb (by omega)];rfl
  go_wp2;go_ret;exact⟨by rw[E.o];rfl,d⟩
def WN(a:List bC):Prop:=∀i(h:i<yA a),a[i].N.size<=1000000000/\a[i].V.size<=1000000000
def aI(a:List bC):Nat×Nat:=
 if 16<yA a then(40,0) else match aD a 0 with
 |some (c,i)=>(c,i)
 |none=>match iF [] a 0 with
  |some i=>(45,i)
  |none=>if ((eL a).toList==ByteArray.empty.toList)=dA then(46,0) else(0,0)
def su{a b c d:Nat}(e:a=c)(f:b=d):Ending.returned (xA #[zA (a:Nat),zA (b:Nat)])=uA (xA #[zA (c:Nat),zA (d:Nat)]):=by rw[e,f]
def OA{a:List bC}(h:16<yA a):aI a=(40,0):=by unfold aI;rw[Ma h]
def UJ{a:List bC}(h:¬16<yA a){c i:Nat}(b:aD a 0=bA (c,i)):aI a=(c,i):=by unfold aI;rw[Ja h,b]
def JS{a:List bC}(h:¬16<yA a)(b:aD a 0=none){i:Nat}(c:iF [] a 0=bA i):aI a=(45,i):=by unfold aI;rw[Ja h,b,c]
def UK{a:List bC}(h:¬16<yA a)(b:aD a 0=none)(c:iF [] a 0=none):aI a=if ((eL a).toList==ByteArray.empty.toList)=dA then(46,0) else(0,0):=by unfold aI;rw[Ja h,b,c]
def dj(a:jC)(g:Nat)(c:List bC)(w:eA)(h:nD w a c)(Z:WN c)(t:yA c<=2000000)(m:yA c<=g)(m:bH w):
 vE 265 #[pA a (yA c) g] w (xA #[zA ((aI c).1:Nat),zA ((aI c).2:Nat)]):=by
 have L:bB (nD w a c):=h;have n:bB (WN c):=Z;have Y:bB (bH w):=m;clear h Z m;by_cases J:16<yA c
 .rw[OA J];go_enter func265,ntmps265;go_wp2;go_ret2;exact⟨rfl,bD⟩
 have v:bB (¬16<yA c):=J;go_enter func265,ntmps265;go_wp2;go_loopw [4,5,6,14] (λ_ _ _ i wr=>∃k:Nat,k<=yA c/\i=zA k/\bB (aD c 0=aD (c.drop k) k)/\tB w wr) (λ_ _ _ i _=>yA c-(intOf i).toNat)
 case atStart=>exact⟨0,Oa _,rfl,rfl,bD⟩
 case round=>
  obtain⟨k,m,rfl,s,d⟩:=hrel;by_cases j:k<yA c
  .obtain ⟨b,o,rfl,N,c0,c1⟩:=(L.o.z d).at j;obtain⟨A,B⟩:=n.o k j;have y:bB _:=λW h=>RZ c[k] W A B h;have q:=AV c k j;by_cases I:tQ c[k]=0
   .have E:bB (aD c 0=aD (c.drop (k+1)) (k+1)):=by show _=_;rw[s.o,q,Ma I]
    have H:bB (∀W,bH W->vE 298 #[.agg #[oA c[k].N,oA c[k].V]] W (zA 0)):=by
     show ∀_,_;have:=y.o;rw[I]at this;exact this
    clear q y I A B;generalize c[k].N=r at *;generalize c[k].V=C at *;go_wp2_with fail;apply hC (H.o _ ((Y.o.z d).z yB));intro T f;have l:bB _:=vB (vB d yB) f;clear f;go_wp2;exact⟨⟨k+1,by omega,by go_num,E.o,l.o⟩,by simp[intOf];omega⟩
   have E:bB _:=UJ v.o (by rw[s.o,q,Ja I]);have n:((tQ c[k]:Int) != 0)=dA:=by simp;omega
   clear q I A B;generalize tQ c[k]=V at *;generalize c[k].N=r at *;generalize c[k].V=C at *;go_wp2_with fail;apply hC (y.o _ ((Y.o.z d).z yB));intro T f;have l:bB _:=vB (vB d yB) f;clear f;go_wp2;go_ret2;exact⟨su (by rw[E.o]) (by rw[E.o]),l.o⟩
  have X:bB (aD c 0=none):=by
   show _=_;rw[s.o,Yb (by omega)];rfl
  clear s;go_wp2;clear j m;go_loopw [7,8,28] (λ_ _ i wr=>∃k:Nat,k<=yA c/\i=zA k/\bB (iF [] c 0=iF (c.take k) (c.drop k) k)/\tB w wr) (λ_ _ i _=>yA c-(intOf i).toNat)
  case atStart=>exact⟨0,Oa _,rfl,rfl,d⟩
  case round=>
   clear d;obtain⟨k,m,rfl,s,d⟩:=hrel;by_cases j:k<yA c
   .obtain ⟨b,o,rfl,N,c0,c1⟩:=(L.o.z d).at j;have q:=EF c k j;have K:kP wr b o c:=by
     rcases L.o.z d with h|⟨b',m,e,_,h⟩;rw[h]at j;exact absurd j (by simp);simp only[Qa,Addr.mk.injEq,Cc]at e;obtain⟨rfl,rfl⟩:=e;exact h
    have p:bB (∀W,tB wr W->vE 299 #[pA (bA (dB b o)) k g,oA c[k].N] W (qA ((c.take k).any λx=>mR x c[k]))):=λW R=>by
     have h:kP W b o c:=λi m=>by
      have:=K i m;exact⟨(R.cell N).trans this.1,(R.cell N).trans this.2⟩
     exact du b o k g c c[k].N W (Bb N R.size) h (by omega) t
    have h:(0:Int)<=(k:Int):=by omega
    have h:(k:Int)<=(g:Int):=by omega
    clear K;by_cases D:((c.take k).any λx=>mR x c[k])=dA
    .have E:bB _:=JS v.o X.o (by rw[s.o,q,Ma D]);have m:bB (∀W,tB wr W->vE 299 #[pA (bA (dB b o)) k g,oA c[k].N] W (qA dA)):=by
      show ∀_,_;have:=p.o;rw[D]at this;exact this
     clear q p D;generalize c[k].N=r at *;generalize c[k].V=C at *;have Q:∀x:iC (wr.alloc (vA #[oA r,oA C] 181)),x.w'.cell? (dB wr.1.size 0)=bA (oA r):=iC.cells (by simp);have z:=iC.there (wr.alloc (vA #[oA r,oA C] 181));go_wp2_with fail;refine wB (by kernel_rfl) (by kernel_rfl) ?_;repeat (go_big_quiet_step (first|(go_at_call 299;exact mC (m.o _ (vB yB (iC.h _))))))
     refine wpQuiet_nil ?_;rintro _ ⟨x,rfl⟩;have P:bB _:=vB (vB d yB) x.h;clear Q z;generalize x.w'=W at *;clear x;go_wp2;go_ret2;exact⟨su (by rw[E.o]) (by rw[E.o]),P.o⟩
    .have E:bB (iF [] c 0=iF (c.take (k+1)) (c.drop (k+1)) (k+1)):=by show _=_;rw[s.o,q,Ja D]
     have m:bB (∀W,tB wr W->vE 299 #[pA (bA (dB b o)) k g,oA c[k].N] W (qA cA)):=by
      show ∀_,_;have h:((c.take k).any λx=>mR x c[k])=cA:=by simpa using D
      have:=p.o;rw[h]at this;exact this
     clear q p D;generalize c[k].N=r at *;generalize c[k].V=C at *;have Q:∀x:iC (wr.alloc (vA #[oA r,oA C] 181)),x.w'.cell? (dB wr.1.size 0)=bA (oA r):=iC.cells (by simp);have z:=iC.there (wr.alloc (vA #[oA r,oA C] 181));go_wp2_with fail;refine wB (by kernel_rfl) (by kernel_rfl) ?_;repeat (go_big_quiet_step (first|(go_at_call 299;exact mC (m.o _ (vB yB (iC.h _))))))
     refine wpQuiet_nil ?_;rintro _ ⟨x,rfl⟩;have P:bB _:=vB (vB d yB) x.h;clear Q z;generalize x.w'=W at *;clear x;go_wp2;exact⟨⟨k+1,by omega,by go_num,E.o,P.o⟩,by simp[intOf];omega⟩
   .have O:bB (iF [] c 0=none):=by
     show _=_;rw[s.o,Yb (by omega)];rfl
    have U:bB (vE 261 #[pA a (yA c) g] wr (oA (eL c))):=FC a g c wr (L.o.z d) t;have E:=UK v.o X.o O.o;have G:bB (ByteArray.empty.toList=[]):=by show _=_;rw[ByteArray.toList_eq];rfl
    generalize eL c=M at *;by_cases u:(M.toList==ByteArray.empty.toList)=dA
    .have F:bB (aI c=(46,0)):=by show _=_;rw[E,Ma u]
     have S:M.toList.isEmpty=dA:=by rw[G.o]at u;simpa using u
     clear u E;go_wp2_with fail;apply hC U.o;intro T f;have l:bB _:=vB d f;clear f;go_wp2;go_ret2;exact⟨su (by rw[F.o]) (by rw[F.o]),l.o⟩
    have F:bB (aI c=(0,0)):=by show _=_;rw[E,Ja u]
    have S:M.toList.isEmpty=cA:=by rw[G.o]at u;simpa using u
    clear u E;go_wp2_with fail;apply hC U.o;intro T f;have l:bB _:=vB d f;clear f;go_wp2;go_ret2;exact⟨su (by rw[F.o]) (by rw[F.o]),l.o⟩
section
open Go.Sort
def cfL(x y:bC):Int:=hY x.N y.N
def ltL(x y:bC):ltOf cfL x y=jP x y:=by
 unfold ltOf cfL hY jP;split
 .rename_i h;rw[h];rfl
 rename_i h;have a:Op.bytesLess x.N.toList y.N.toList=cA:=by simpa using h
 rw[a];split<;>rfl
def aOt:SWO (ltOf cfL) where
 irrefl x:=by rw[ltL];exact kH _
 trans x y z h1 h2:=by rw[ltL]at *;exact gJ _ _ _ h1 h2
 ntrans x y z h1 h2:=by rw[ltL]at *;exact PG (x:=z) (y:=y) (z:=x) h2 h1
def qd(x y:bC)(W:eA):gA prog 267 #[.agg #[oA x.N,oA x.V],.agg #[oA y.N,oA y.V]] W λe c=>e=uA (zA (cfL x y))/\∃q b,c=grow (W.drewN q) b:=by
 have a:=λd=>JJ x.N y.N d;unfold cfL;generalize hY x.N y.N=r at a |-
 go_enter func267,ntmps267;go_wp2_with(go_at_call 184;apply hC (a _);rintro c rfl);go_ret;exact⟨rfl,0,_,by rw[alloc_eq_grow,alloc_eq_grow,grow_grow];rfl⟩
section
variable [Inhabited bC]
theorem cg(c b a:Nat)(w:eA):CmpLays prog 267 #[] kU 2 cfL c b a w:=
 λ_ _ _ _ x y=>qd x y _
theorem qf{w:eA}{g n:Nat}{a:Array iA}{t:jA}(h:gB w g a t)(d:Array bC)(e:Array Obj):∃b,gB (sortWorldK kU 2 w g 0 n d e) g b t:=by
 have c:=aB h;refine⟨putCells id 0 (flatK kU 2 d) a,?_⟩;unfold gB sortWorldK putRowK putRow mapBlock;rw[heap_grow_old _ _ (by simpa[ahead]using c)];show(Array.modify w.heap g _)[g]?=_;rw[Array.getElem?_modify,Ma rfl];unfold gB at h;rw[h];rfl
theorem qe{w:eA}{g n B:Nat}(b:B<=g)(c:g<w.1.size)(d:Array bC)(a:Array Obj):Below B w (sortWorldK kU 2 w g 0 n d a):=by
 refine⟨rfl,rfl,rfl,?_,λk e=>?_⟩;simp[sortWorldK,putRowK,putRow,mapBlock];unfold sortWorldK putRowK putRow mapBlock;rw[heap_grow_old _ _ (by simp;omega)];show(Array.modify w.heap g _)[k]?=_;rw[Array.getElem?_modify,Ja (by omega)]
theorem dz{w:eA}{g:Nat}{c:Array iA}{t:jA}{b:List bC}(h:gB w g c t)(k:kP w g 0 b):HoldsK kU 2 w g 0 b.toArray:=by
 intro j d;rw[size_flatK]at d;have a:j / 2<yA b:=by simp at d;omega
 refine⟨?_,h.free _⟩;rw[get_flatK _ _ _ _ d];have e:b.toArray[j / 2]! = b[j / 2]:=by simp[getElem!_pos,a]
 rw[e];have i:=k (j / 2) a;rcases Nat.mod_two_eq_zero_or_one j with f|f;rw[f];have:=i.1;rw[show 0+j / 2*2=0+j by omega]at this;rw[this];rfl;rw[f];have:=i.2;rw[show 0+j / 2*2+1=0+j by omega]at this;rw[this];rfl
theorem aHq{w:eA}{g B:Nat}{b:Array iA}{t:jA}{d:Array bC}(h:gB w g b t)(l:B<=g)(k:HoldsK kU 2 w g 0 d):tD w B (pB g) d.toList:=by
 refine La ⟨g,0,b,t,rfl,l,h,λi m=>?_⟩;have a:i<d.size:=by simpa using m
 have f:=(k.cell (c:=0) a (by omega)).1;have j:=(k.cell (c:=1) a (by omega)).1;have e:d[i]! = d[i]:=getElem!_pos d i a;rw[e]at f j;rw[Mg];exact⟨f,j⟩
theorem jk{d:Array bC}(h:SortedIn (ltOf cfL) 0 d.size d):d.toList.Pairwise Le:=by
 rw[Qe];intro i j e c b;have a:j<d.size:=by simpa using c
 have:=h i j (Oa _) b a;rw[ltL,getElem!_pos d i (by omega),getElem!_pos d j a]at this;rw[Mg,Mg];exact this
theorem ZP(g h:Nat)(a:List bC)(w:eA)(B:Nat)(s:B<=g){l:Array iA}{t:jA}(k:gB w g l t)(u:kP w g 0 a)(y:yA a<=2000000):
 gA prog 266 #[pA (pB g) (yA a) h,.func (.func 267) #[] #[]] w λe q=>
  e=uA (xA #[])/\∃f,f.Perm a/\f.Pairwise Le/\tD q B (pB g) f/\Below B w q:=by
 have D:∀args w,(callFunc 267 args).run prog w=.ok (.enter 267 args) w:=enters_of func267 (by kernel_rfl) rfl;have o:=aB k;have c:=AnyQ.slices_SortFunc sortL 2 isAgg181 sizeOf181 kU (λ_=>rfl) (λx v z=>by simp[kU]at z;rcases z with rfl|rfl<;>rfl) cfL aOt 267 #[] g 0 h a.toArray w D (cg g 0 _ w) (dz k u) o (by simp;omega);change gA prog 266 _ _ _ at c;apply hC c;rintro q ⟨b,n,p,F,G,rfl⟩;obtain⟨d,_,i⟩:=F;obtain⟨r,m⟩:=qf (n:=n) k b p;have E:HoldsK kU 2 (sortWorldK kU 2 w g 0 n b p) g 0 b:=
  holdsK_grow kU 2 _ _ _ _ _ (by simpa[putRowK,putRow,mapBlock,ahead]using o) (holdsK_putRowK kU 2 _ _ _ a.toArray b (holdsK_ahead kU 2 _ _ _ _ _ (dz k u)) d)
 have j:b.size=yA a:=by simpa using d
 refine⟨rfl,b.toList,?_,jk (by rw[j];simpa using G),aHq m s E,qe s o b p⟩;have A:b.extract 0 a.toArray.size=b:=by rw[<-d];simp
 have C:a.toArray.extract 0 a.toArray.size=a.toArray:=by simp
 rw[A,C]at i;exact i
end
end
def JR(b:List bC):((aI b).1=0->uB b=(aG [] b,0,0)/\gU b/\rR b=dA/\(aI b).2=0/\¬16<yA b)/\((aI b).1≠0->uB b=([],(aI b).1,(aI b).2)):=by
 by_cases a:16<yA b
 .rw[OA a,BP a];exact⟨λh=>absurd h (by simp),λ_=>rfl⟩
 cases hb:aD b 0 with
 |some e=>
  obtain⟨c,i⟩:=e;rw[UJ a hb,qZ a hb];refine⟨λh=>?_,λ_=>rfl⟩;exfalso;have:∀(l:List bC)(j:Nat),aD l j=bA (c,i)->c≠0:=by
   intro l;induction l with
   |nil=>intro j h;simp[aD]at h
   |cons x r g=>
    intro j h;rw[aD]at h;split at h;exact g _ h
    rename_i f;simp only[Qa,Dc]at h;rw[<-h.1];exact f
  exact this b 0 hb h
 |none=>
  cases ht:iF [] b 0 with
  |some i=>
   rw[JS a hb ht,eY a hb ht];exact⟨λh=>absurd h (by simp),λ_=>rfl⟩
  |none=>
   have d:=se b ht;rw[UK a hb ht,gj b d];cases hm:rR b with
   |true=>
    rw[MX a hb ht hm];exact⟨λ_=>⟨rfl,d,rfl,rfl,a⟩,λh=>absurd rfl h⟩
   |false=>
    rw[GU a hb ht hm];exact⟨λh=>absurd h (by simp),λ_=>rfl⟩
def UX{b:List bC}(h:rR b=dA):0<yA (pL b):=by
 unfold rR at h;rw[Zd]at h;obtain⟨x,c,a⟩:=h;rw[Sa]at a;exact List.length_pos_of_mem (De.2 ⟨c,a.1⟩)
def AX(a:jC)(m:Nat)(c:List bC)(w:eA)(h:nD w a c)(G:WN c)(X:yA c<=2000000)(V:yA c<=m)(I:bH w):
 gA prog 220 #[pA a (yA c) m] w λe D=>∃a' n,e=uA (xA #[.slice a' (yA (uB c).1) n,zA ((uB c).2.1:Nat),zA ((uB c).2.2:Nat)])/\yA (uB c).1<=n/\tD D w.1.size a' (uB c).1/\tB w D:=by
 have y:bB (vE 265 #[pA a (yA c) m] w (xA #[zA ((aI c).1:Nat),zA ((aI c).2:Nat)])):=dj a m c w h G X V I;have HF:bB (nD w a c):=h;obtain⟨L,M⟩:=JR c;clear h G I;by_cases S:(aI c).1=0
 .obtain ⟨r,Z,H,h2,h16⟩:=L S;have F:bB (vE 265 #[pA a (yA c) m] w (xA #[zA 0,zA 0])):=by
   show gA _ _ _ _ _;have:=y.o;rw[S,h2]at this;exact this
  have j:bB (uB c=(aG [] c,0,0)/\gU c/\0<yA (pL c)):=⟨r,Z,UX H⟩
  obtain⟨ti,h,J,O,U⟩:=EP;have HI:bB _:=h;clear L M S r Z H h2 y h;go_enter func220,ntmps220;go_wp2_with fail;apply hC F.o;intro w1 p;have K:bB _:=p;clear p F;go_wp2;go_loopw [7,9,21] (λh _ i wr=>∃(k:Nat)(d:List bC)(P:jC)(u:Nat),k<=yA c/\yA d<=k/\bB (d=pL (c.take k))/\i=zA k/\h=pA P (yA d) u/\bB (wr.ownsRow w.1.size 181 2 (pA P (yA d) u) (yA d) (nC d))/\tB w wr) (λ_ _ i _=>yA c-(intOf i).toNat)
  case atStart=>exact⟨0,[],none,0,Oa _,Oa _,rfl,rfl,rfl,⟨rfl,Ca ⟨rfl,rfl⟩⟩,K.o⟩
  case round=>
   obtain⟨k,d,P,u,h,h,W,rfl,rfl,f,l⟩:=hrel;by_cases Y:k<yA c
   .obtain ⟨b,o,rfl,hb,c0,c1⟩:=(HF.o.z l).at Y;have G:=oa c k Y;have I:=fh c[k];have h:=l.size;by_cases s:pS c[k]=dA
    .have E:bB (d=pL (c.take (k+1))):=by show _=_;rw[G,Ma s,Cd];exact W.o
     have Y:c[k].V.toList.isEmpty=dA:=by rw[<-I];exact s
     clear G s I;generalize c[k].N=h at *;generalize c[k].V=m at *;go_wp2;exact⟨⟨k+1,d,P,u,by omega,by omega,E.o,by go_num,rfl,eC f.o yB,vB l yB⟩,by simp[intOf];omega⟩
    have E:bB (d++[c[k]]=pL (c.take (k+1))):=by show _=_;rw[G,Ja s,W.o]
    have Y:c[k].V.toList.isEmpty=cA:=by rw[<-I];simpa using s
    have Y:bB (nC [c[k]]=[oA c[k].N,oA c[k].V]):=rfl;clear G s I;generalize c[k]=G at *;generalize G.N=h at *;generalize G.V=m at *;have HW:bB (∀x,tB wr ((wr.alloc (vA #[oA h,oA m] 181)).alloc x)):=λx=>vB yB yB;go_wp2_with(at_builtin;refine wpList_append_lies _ rfl _ _ _ rfl w.1.size 181 ti _ 2 32 underlying104 HI.o J O U rfl (by omega) (pA P (yA d) u) (yA d) (nC d) rfl (by exact eC f.o (HW.o _)) (dB (wr.1.size+1) 0) 1 1 [oA h,oA m] rfl rfl (by exact yy _ _ #[oA h,oA m] _) (by simp[iA.oneCell']) (by omega) (by simp[maxLen];omega) (by omega) (by simp;omega) (wr.1.size+1+1) (by simp) ?_;intro U R I t A I I);have I:=(vB l (HW.o _)).grown A (by simp;omega) (λq J=>mH f.o q J);have O:yA (d++[G])=yA d+1:=by simp
    have J:nC d++[oA h,oA m]=nC (d++[G]):=by rw[jF,Y.o]
    rw[J,<-O]at t;exact⟨⟨k+1,d++[G],pB U,R,by omega,by rw[O];omega,E.o,by go_num,by rw[O],t,I⟩,by simp[intOf];omega⟩
   have Q:bB (d=pL c):=by show _=_;rw[W.o,Ra (by omega)]
   have J:0<yA d:=by rw[Q.o];exact j.o.2.2
   have G:=xJ f.o;obtain⟨g,z,m,N,W,T,I⟩:∃g z,P=pB g/\w.1.size<=g/\gB wr g z 181/\kP wr g 0 d/\yA d<=u:=by
    obtain⟨_,Y⟩|⟨g,n,z,s,N,hg,O,_⟩:=f.o.2;omega;simp only[iA.slice.injEq]at s;obtain h|⟨U,U,U,t',U,_,_,Y⟩:=G;rw[h]at J;exact absurd J (by simp);rw[s.1]at U;simp only[Qa,Addr.mk.injEq,Cc]at U;obtain⟨rfl,rfl⟩:=U;exact⟨g,z,s.1,N,hg,Y,by rw[s.2.2];exact O⟩
   have h:bB (gA prog 266 #[pA (pB g) (yA d) u,.func (.func 267) #[] #[]] wr λe D=>
    e=uA (xA #[])/\∃B,B.Perm d/\B.Pairwise Le/\tD D w.1.size (pB g) B/\Below w.1.size wr D):=haveI:=aHo;ZP g u d wr w.1.size N W T (by omega)
   subst m;clear f G T W;go_wp2_with fail;apply hC h.o;rintro w2 ⟨B,h,hs,O,U⟩;have m:=WC j.o.2.1 (by rw[<-Q.o];exact h) hs;have W:bB (yA d=yA (aG [] c)):=by show _=_;rw[<-m,h.length_eq]
   have G:bB (tD w2 w.1.size (pB g) (aG [] c)):=by rw[<-m];exact O
   have J:bB _:=l.trans U;clear h hs O U m;go_wp2;refine bodyPost_ret (v:=xA #[pA (pB g) (yA d) u,zA 0,zA 0]) (by simp[results,results220,go_sem]) rfl ⟨pB g,u,?_,?_,?_,J.o⟩
   .rw[j.o.1,W.o];rfl
   .rw[j.o.1,<-W.o];exact I
   rw[j.o.1];exact G.o
 .have r:=M S;have j:bB _:=r;have h:(((aI c).1:Int) != 0)=dA:=by simp;omega
  clear L M S r;generalize (aI c).1=C at *;generalize (aI c).2=I at *;go_enter func220,ntmps220;go_wp2_with fail;apply hC y.o;intro w1 p;have K:bB _:=p;clear p y;go_wp2;refine bodyPost_ret (v:=xA #[pA none 0 0,zA C,zA I]) (by simp[results,results220,go_sem]) rfl ⟨none,0,?_,?_,?_,K.o⟩
  .rw[j.o];rfl
  .rw[j.o];exact Ia _
  rw[j.o];exact Ca rfl
def xU.tail{f:jB}{r:List jB}(h:xU (f::r)):xU r:=λi j a b=>by
 have:=h (i+1) (j+1) (by omega) (by simp;omega);simpa using this
def xU.head{f:jB}{r:List jB}(h:xU (f::r))(j:Nat)(a:j<yA r):Op.bytesLess f.N.toList r[j].N.toList=dA:=by
 have:=h 0 (j+1) (by omega) (by simp;omega);simpa using this
theorem lK:∀{c:List jB}(t:nB),xU c->mT c t (fC t c)
 |[],t,_=>⟨Ia _,λj h=>absurd h (by simp),λj h=>absurd h (by simp)⟩
 |f::r,t,g=>by
  have e:=lK t g.tail;unfold fC;by_cases b:Op.bytesLess f.N.toList t.toList=dA
  .rw[Ma b];refine⟨by simp;exact e.1,λj a k=>?_,λj a i=>?_⟩
   .cases j with
    |zero=>exact b
    |succ j=>simpa using e.2.1 j (by simpa using a) (by omega)
   cases j with
   |zero=>omega
   |succ j=>simpa using e.2.2 j (by simpa using a) (by omega)
  rw[Ja b];refine⟨Oa _,λj _ h=>absurd h (by omega),λj a _=>?_⟩;cases j with
  |zero=>simpa using b
  |succ j=>
   have d:j<yA r:=by simpa using a
   show Op.bytesLess r[j].N.toList t.toList=cA;rw[Yc];intro h;exact b (gJ _ _ _ (g.head j d) h)
def rT(a:jC)(d:Nat)(b:List jB)(t:nB)(w:eA)(j:rB w a b)(c:xU b)(f:yA b<=1048576):
 vE 124 #[pA a (yA b) d,oA t] w (xA #[zA (fC t b),qA (fI b t (fC t b))]):=by
 refine(iW a d b t w j c f).mono ?_;rintro e g ⟨i,k,rfl,h⟩;obtain rfl:=k.uniq (lK t c);exact⟨rfl,h⟩
theorem LX{a:List jB}{t:nB}{i:Nat}(h:fI a t i=dA):∃b:i<yA a,a[i].N=t:=by grind [fI,toList_inj]
def kD(a:List jB)(t:nB):List jB:=a.filter λf=>!(f.N.toList==t.toList)
def lH:List jB->jB->List jB
 |[],f=>[f]
 |g::r,f=>if Op.bytesLess f.N.toList g.N.toList=dA then f::g::r else g::lH r f
def GF{a:List jB}{t:nB}(h:∀j(b:j<yA a),a[j].N≠t):kD a t=a:=by
 unfold kD;rw[Jc];intro f c;obtain⟨j,b,rfl⟩:=Ib c;simp only[Bool.not_eq_true',Ug,ne_eq];exact λe=>h j b (toList_inj e)
theorem vU:∀{a:List jB}{i:Nat}(_:xU a)(g:i<yA a),kD a a[i].N=a.eraseIdx i
 |f::r,0,c,_=>by
  have e:kD (f::r) f.N=kD r f.N:=by simp[kD]
  show kD (f::r) f.N=r;rw[e];exact GF λj h e=>by
   have:=c.head j h;rw[e,kH]at this;exact absurd this (by simp)
 |f::r,i+1,c,g=>by
  have b:i<yA r:=by simpa using g
  have k:=vU c.tail b;have d:(f.N.toList==(r[i]).N.toList)=cA:=by
   rw[Ug];intro e;have:=c.head i b;rw[e,kH]at this;exact absurd this (by simp)
  show kD (f::r) r[i].N=f::r.eraseIdx i;rw[<-k];simp[kD,d]
def xU.erase{a:List jB}(h:xU a)(i:Nat):xU (a.eraseIdx i):=by grind [xU]
def UP{a:List jB}{t:nB}(f:xU a)(g:fI a t (fC t a)=cA):∀j(b:j<yA a),a[j].N≠t:=by
 intro j b e;have i:=lK t f;rcases Nat.lt_trichotomy j (fC t a) with h|h|h;have:=i.2.1 j b h;rw[e,kH]at this;exact absurd this (by simp)
 .have:fI a t j=dA:=by simp[fI,Va b,e]
  rw[<-h,this]at g;exact absurd g (by simp)
 have c:=i.2.2 (fC t a) (by omega) (Ia _);have d:=f (fC t a) j h b;rw[e]at d;rw[d]at c;exact absurd c (by simp)
theorem IL:∀{a:List jB}(f:jB),xU a->(∀j(k:j<yA a),a[j].N≠f.N)->lH a f=dM a (fC f.N a) f
 |[],f,_,_=>rfl
 |g::r,f,i,h=>by
  have l:=IL f i.tail (λj k=>by have:=h (j+1) (by simp;omega);simpa using this);unfold lH fC;by_cases b:Op.bytesLess g.N.toList f.N.toList=dA
  .rw[Ja (by rw[tP b];simp),Ma b,l];simp[dM]
  have d:g.N.toList≠f.N.toList:=λe=>h 0 (by simp) (toList_inj e);have c:=rL _ _ (by simpa using b) d;rw[Ma c,Ja b];rfl
theorem xt{a:List jB}{i:Nat}(b:i<yA a)(f:jB):dM (a.eraseIdx i) i f=a.set i f:=by
 rw[dM,List.eraseIdx_eq_take_drop_succ,List.set_eq_take_append_cons_drop,Ma b];have c:yA (a.take i)=i:=by rw[Hb];omega
 rw[List.take_append_of_le_length (by omega),Ra (by omega),List.drop_append_of_le_length (by omega),Ie (by omega),Mb]
theorem zm{b:List jB}{i:Nat}(c:xU b)(d:i<yA b):fC b[i].N (b.eraseIdx i)=i:=by
 refine(lK _ (c.erase i)).uniq ⟨by rw[Ad,Ma d];omega,λj e a=>?_,λj e f=>?_⟩;rw[List.getElem_eraseIdx,dif_pos a];exact c j i a d;rw[List.getElem_eraseIdx,dif_neg (by omega)];rw[Ad,Ma d]at e;exact tP (c i (j+1) (by omega) (by omega))
def vH(a:List jB)(f:jB):List jB:=lH (kD a f.N) f
def RG{a:List jB}{f:jB}(b:xU a)(d:fI a f.N (fC f.N a)=cA):vH a f=dM a (fC f.N a) f:=by
 have c:=UP b d;unfold vH;rw[GF c];exact IL f b c
theorem RH{a:List jB}{f:jB}{i:Nat}(b:xU a)(d:i<yA a)(c:a[i].N=f.N):vH a f=a.set i f:=by grind [xU,vH,vU,kH,IL,zm,xt]
def dt{W w d:eA}{B:Nat}{e:jA}{a:Nat}{v:iA}{n:Nat}{l:List iA}(h:w.ownsRow B e a v n l)(j:Below B W w)(c:B<=w.1.size)(b:w.grownBy d v.ownBlock):Below B W d:=
 j.trans ((bE.grown (S:=λk=>v.ownBlock=bA k) b (λ_ h=>h)).below (λg b=>by
  obtain⟨rfl,_⟩|⟨m,f,i,rfl,o,_⟩:=h.2;simp[iA.ownBlock]at b;simp[iA.ownBlock]at b;omega) c)
def aEa(W:eA)(x:Obj)(cs:Array iA)(t:jA):∀j u,cs.toList[j]?=bA u->((W.alloc x).alloc (vA cs t)).cell? (((dB (W.1.size+1) 0):Addr).add j)=bA u:=
 eA.news_of_block (fr:=(0,0)) (by have h:=heap_alloc_new (W.alloc x) (vA cs t);simpa using h)
def az(l:List jB)(f:jB)(t:nB):kD (l++[f]) t=kD l t++(if (f.N.toList==t.toList)=dA then [] else [f]):=by grind [kD]
def kT(l:List jB)(t:nB):yA (kD l t)<=yA l:=Pc _ _
def AZ(a:jC)(B:Nat)(c:List jB)(t:nB)(w:eA)(H:rB w a c)(I:yA c<=1048576):
 gA prog 170 #[pA a (yA c) B,oA t] w λe K=>∃v,e=uA v/\K.ownsRow w.1.size 151 3 v (yA (kD c t)) (flat (kD c t))/\tB w K:=by
 have L:bB (rB w a c):=H;clear H;obtain⟨Q,s,C,D,E⟩:=nL;have M:bB _:=s;clear s;go_enter func170,ntmps170;go_wp2;go_loopw [5,7,11] (λo _ i wr=>∃(j:Nat)(m:jC)(n p:Nat),j<=yA c/\i=zA j/\o=pA m n p/\n=yA (kD (c.take j) t)/\wr.ownsRow w.1.size 151 3 (pA m n p) n (flat (kD (c.take j) t))/\tB w wr) (λ_ _ i _=>yA c-(intOf i).toNat)
 case atStart=>exact⟨0,_,0,0,Oa _,rfl,rfl,rfl,⟨rfl,La ⟨w.1.size,0,#[],rfl,Ia _,heap_alloc_new _ _,Ia _,Oa _,rfl,rfl⟩⟩,yB⟩
 case round=>
  obtain⟨j,m,n,p,W,rfl,rfl,r,k,d⟩:=hrel;have u:bB (wr.ownsRow w.1.size 151 3 (pA m n p) n (flat (kD (c.take j) t))):=k;have y:bB _:=r;have P:n<=1048576:=by have:=kT (c.take j) t;rw[Hb]at this;omega
  clear k r;by_cases q:j<yA c
  .obtain ⟨b,o,rfl,V,R,S,T⟩:=(L.o.z d).at q;have z:bB (kD (c.take (j+1)) t=kD (c.take j) t++(if (c[j].N.toList==t.toList)=dA then [] else [c[j]])):=by
    show _=_;rw[Pa q,az]
   by_cases x:(c[j].N.toList==t.toList)=dA
   .have f:bB (kD (c.take (j+1)) t=kD (c.take j) t):=by show _=_;rw[z.o,Ma x];simp
    go_wp2;exact⟨⟨j+1,m,n,p,by omega,by go_num,rfl,by rw[f.o];exact y.o,by rw[f.o];exact eC u.o yB,vB d yB⟩,by simp[intOf];omega⟩
   have O:(c[j].N.toList==t.toList)=cA:=by simpa using x
   have f:bB (kD (c.take (j+1)) t=kD (c.take j) t++[c[j]]):=by show _=_;rw[z.o,Ja x]
   have A:bB (tB wr ((wr.alloc (vA #[oA c[j].N,oA c[j].data,zA c[j].Y] 151)).alloc (vA #[oA c[j].N,oA c[j].data,zA c[j].Y] 151))):=vB yB yB;clear x z;go_wp2_with(at_builtin;refine wpList_append_lies _ rfl _ _ _ rfl w.1.size 151 Q _ 3 40 underlying33 M.o C D E rfl (by omega) (pA m n p) n (flat (kD (c.take j) t)) rfl (by exact eC u.o A.o) (dB (wr.1.size+1) 0) 1 1 [oA c[j].N,oA c[j].data,zA c[j].Y] rfl rfl (by exact aEa _ _ #[oA c[j].N,oA c[j].data,zA c[j].Y] _) (by simp[iA.oneCell']) (by omega) (by simp[maxLen];omega) (by omega) (by have:=d.size;simp;omega) (wr.1.size+1+1) (by simp) ?_;intro U F X l g G J);refine⟨⟨j+1,_,n+1,_,by omega,by go_num,rfl,by rw[f.o,Kb,<-y.o];rfl,?_,?_⟩,by simp[intOf];omega⟩
   .rw[f.o,flat_append,pY];exact l
   exact dt (eC u.o A.o) (vB d A.o) (by have:=d.size;simp;omega) g
  .go_wp2;go_ret;have N:j=yA c:=by omega
   have h:=u.o;have r:=y.o;rw[N,Rb]at h r;subst r;exact⟨_,rfl,h,d⟩
def xT:∀{l:List jB}{f:jB}(r:List jB),(l.any λg=>Op.bytesLess f.N.toList g.N.toList)=dA->lH (l++r) f=lH l f++r
 |[],_,_,h=>by simp at h
 |g::l,f,r,h=>by
  show lH (g::(l++r)) f=_;unfold lH;by_cases a:Op.bytesLess f.N.toList g.N.toList=dA
  .rw[Ma a,Ma a];rfl
  rw[Ja a,Ja a,xT r (by simpa[a]using h)];rfl
def eR:∀{l:List jB}{f:jB}(r:List jB),(l.any λg=>Op.bytesLess f.N.toList g.N.toList)=cA->lH (l++r) f=l++lH r f
 |[],_,_,_=>rfl
 |g::l,f,r,h=>by
  simp only[List.any_cons,Bool.or_eq_false_iff]at h;show lH (g::(l++r)) f=_;rw[lH,Ja (by rw[h.1];simp),eR r h.2];rfl
def iH(a:List jB)(f:jB)(j:Nat):Bool:=(a.take j).any λg=>Op.bytesLess f.N.toList g.N.toList
def vL(a:List jB)(f:jB)(j:Nat):List jB:=if iH a f j=dA then lH (a.take j) f else a.take j
def iM{a:List jB}{f:jB}{j:Nat}(h:j<yA a):iH a f (j+1)=(iH a f j||Op.bytesLess f.N.toList a[j].N.toList):=by
 unfold iH;rw[Pa h,Tf];simp only[List.any_cons,List.any_nil,Bool.or_false]
def ig{a:List jB}{f:jB}{j:Nat}(h:j<yA a)(b:iH a f j=dA):vL a f (j+1)=vL a f j++[a[j]]:=by
 unfold vL;rw[Ma b,Ma (by rw[iM h,b];rfl),Pa h];exact xT _ b
def aEo{a:List jB}{f:jB}{j:Nat}(h:j<yA a)(c:iH a f j=cA)(b:Op.bytesLess f.N.toList a[j].N.toList=dA):vL a f (j+1)=vL a f j++[f]++[a[j]]:=by
 have d:iH a f (j+1)=dA:=by rw[iM h,b];simp
 have e:vL a f (j+1)=lH (a.take (j+1)) f:=Ma d;have g:vL a f j=a.take j:=Ja (by rw[c];simp);rw[e,g,Pa h,eR _ c];simp[lH,b]
def aEn{a:List jB}{f:jB}{j:Nat}(h:j<yA a)(b:iH a f j=cA)(g:Op.bytesLess f.N.toList a[j].N.toList=cA):vL a f (j+1)=vL a f j++[a[j]]:=by
 have c:iH a f (j+1)=cA:=by rw[iM h,b,g];rfl
 have d:vL a f (j+1)=a.take (j+1):=Ja (by rw[c];simp);have e:vL a f j=a.take j:=Ja (by rw[b];simp);rw[d,e,Pa h]
def aEm{a:List jB}{f:jB}(b:iH a f (yA a)=cA):lH a f=vL a f (yA a)++[f]:=by
 unfold vL;rw[Ja (by rw[b];simp)];unfold iH at b;rw[Rb]at b |-
 have:=eR (f:=f) [] b;rw[Cd]at this;rw[this];rfl
def aEl{a:List jB}{f:jB}(b:iH a f (yA a)=dA):lH a f=vL a f (yA a):=by
 unfold vL;rw[Ma b,Rb]
def ie(b:List jB)(f:jB)(j:Nat):yA (vL b f j)<=j+1:=by
 have a:∀(l:List jB),yA (lH l f)=yA l+1:=λl=>by
  induction l with
  |nil=>rfl
  |cons g r c=>unfold lH;split<;>simp[c]
 unfold vL;split;rw[a,Hb];omega;rw[Hb];omega
def qF:List nB->nB
 |[]=>kA
 |x::r=>x++qF r
def eG:∀(a b:List nB),qF (a++b)=qF a++qF b
 |[],b=>by simp[qF]
 |x::r,b=>by
  show x++qF (r++b)=x++qF r++qF b;rw[eG r b,Wa]
def aBr(a:List nB):(qF a).data.toList=(a.map (·.data.toList)).flatten:=by
 induction a with
 |nil=>rfl
 |cons x r b=>simp[qF,b]
def fm(a:List nB):Lib.join (a.map (·.data.toList)) ByteArray.empty.data.toList=(qF a).data.toList:=by
 have e:ByteArray.empty.data.toList=[]:=rfl;rw[aBr,e];cases a with
 |nil=>rfl
 |cons x r=>
  rw[Fc,Lib.join_cons,Lib.joinTail];simp;rfl
def aGh(a:List nB):(⟨(Lib.join (a.map (·.data.toList)) ByteArray.empty.data.toList).toArray⟩:nB)=qF a:=by
 rw[fm]
def yF:List nB->Nat
 |[]=>0
 |x::r=>x.size+yF r
def GV:∀(a:List nB),(qF a).size=yF a
 |[]=>rfl
 |x::r=>by rw[qF,Ka,GV r,yF]
def oH:∀(a b:List nB),yF (a++b)=yF a+yF b
 |[],b=>by simp[yF]
 |x::r,b=>by show x.size+yF (r++b)=x.size+yF r+yF b;rw[oH r b];omega
def BZ(n:Nat)(w:eA):vE 24 #[zA (n:Nat)] w (oA (qB 1 (n:Nat))):=by
 have d:bB (∀W,vE 79 #[zA (n:Nat),zA 1] W (oA (qB 1 (n:Nat)))):=λW=>fH 1 (n:Nat) W (by omega);generalize qB 1 (n:Nat)=N at *;go_enter func24,ntmps24;go_wp2_with fail;apply hC (d.o _);intro f a;have c:bB _:=a;clear a;go_wp2;go_ret;exact⟨rfl,c.o⟩
def iI(g n b:Nat)(a:List nB)(w:eA)(p:n=yA a)(i:∀(j:Nat) x,a[j]?=bA x->w.cell? (dB g (0+j))=bA (oA x))(o:g<w.1.size)(d:yA a<=b)(q:yA a<=1000000000)(k:yF a<=140737488355328):
 vE 159 #[pA (pB g) n b] w (oA (qF a)):=by
 subst p;have m:bB (vE 224 #[pA (pB g) (yA a) b,oA kA] w (oA (qF a))):=by
  have h:=strings_Join g 0 b a kA w i o (by omega) d (by rw[fm,<-Lib.size_eq,GV];exact k);rw[aGh]at h;exact h
 clear i k;generalize qF a=C at *;generalize yA a=n at *;go_enter func159,ntmps159;go_wp2_with fail;apply hC m.o;intro r c;have l:bB _:=c;clear c;go_wp2;go_ret;exact⟨rfl,l.o⟩
def WJ{W:eA}{x y:nB}{t:jA}:∀(j:Nat) z,[x,y][j]?=bA z->(W.alloc (vA #[oA x,oA y] t)).cell? (dB W.1.size (0+j))=bA (oA z):=by
 intro j z h;rw[cell_of_row _ W.1.size _ _ _ _ (heap_alloc_new _ _),Ya];match j,h with
 |0,h=>simp at h;simp[h]
 |1,h=>simp at h;simp[h]
 |j+2,h=>simp at h
def mS(s:nB)(w:eA)(j:s.size<=1000000000):vE 218 #[oA s] w (oA (xM s)):=by
 have i:bB _:=λW=>BZ s.size W;have k:=kB 1 (s.size:Nat);unfold xM;generalize qB 1 (s.size:Nat)=N at *;have g:bB (∀W:eA,vE 159 #[pA (pB W.1.size) 2 2] (W.alloc (vA #[oA N,oA s] 9)) (oA (N++s))):=λW=>by
  have h:=iI W.1.size 2 2 [N,s] (W.alloc (vA #[oA N,oA s] 9)) rfl WJ (by simp) (by simp) (by simp) (by simp[yF];omega);have e:qF [N,s]=N++s:=by simp[qF]
  rw[e]at h;exact h
 go_enter func218,ntmps218;go_wp2_with fail;apply hC (i.o _);intro l a;have f:bB _:=a;clear a;go_wp2_with fail;apply hC (g.o _);intro m b;have c:bB _:=vB (vB f.o yB) b;clear b;go_wp2;go_ret;exact⟨rfl,c.o⟩
def mL(s:nB)(w:eA)(j:s.size<=1000000000):vE 166 #[oA s] w (oA (vF s)):=by
 have i:bB (∀W,vE 79 #[zA (s.size:Nat),zA 2] W (oA (qB 2 (s.size:Nat)))):=λW=>fH 2 (s.size:Nat) W (by omega);have k:=kB 2 (s.size:Nat);unfold vF;generalize qB 2 (s.size:Nat)=N at *;have g:bB (∀W:eA,vE 159 #[pA (pB W.1.size) 2 2] (W.alloc (vA #[oA N,oA s] 9)) (oA (N++s))):=λW=>by
  have h:=iI W.1.size 2 2 [N,s] (W.alloc (vA #[oA N,oA s] 9)) rfl WJ (by simp) (by simp) (by simp) (by simp[yF];omega);have e:qF [N,s]=N++s:=by simp[qF]
  rw[e]at h;exact h
 go_enter func166,ntmps166;go_wp2_with fail;apply hC (i.o _);intro l a;have f:bB _:=a;clear a;go_wp2_with fail;apply hC (g.o _);intro m b;have d:bB _:=vB (vB f.o yB) b;clear b;go_wp2;go_ret;exact⟨rfl,d.o⟩
def zu{w:eA}{B:Nat}{e:jA}{a:Nat}{v:iA}{n:Nat}{xs:List iA}(h:w.ownsRow B e a v n xs):∀g,v.ownBlock=bA g->B<=g:=by
 intro g b;obtain⟨rfl,_⟩|⟨i,cap,c,rfl,d,_⟩:=h.2;simp[iA.ownBlock]at b;simp[iA.ownBlock]at b;subst b;exact d
def qW:(prog.info? 151).map (λi=>(i.zero,i.size,i.bytes))=bA (bA (.agg #[oA kA,oA kA,zA 0]),3,40):=by kernel_rfl
structure WI(w wr:World)(C:Nat)(a1:jC)(es:List jB)(f:jB)(av:jC)(n cv:Nat)(xs:List Value):Prop where
 row:wr.ownsRow (w.1.size+1) 151 3 (pA av n cv) n xs
 ap:∀b o,a1=bA (dB b o)→bA b≠(iA.slice av n cv).ownBlock∧b<C
 sz:C≤wr.1.size
 fi:rB wr a1 es
 fb:gB wr w.1.size #[oA f.N,oA f.data,zA f.Y] 151
 bel:tB w wr
section
variable {w wr w':eA} {C n cv g cap:Nat} {a1 av:jC} {es:List jB} {f:jB} {xs ys:List iA}
theorem WI.z(h:WI w wr C a1 es f av n cv xs)(a:tB wr w'):WI w w' C a1 es f av n cv xs:=⟨eC h.row a,h.ap,Ua h.sz a.size,h.fi.z a,h.fb.z a,vB h.bel a⟩
theorem WI.app(h:WI w wr C a1 es f av n cv xs)(O:bB (w'.ownsRow (w.1.size+1) 151 3 (pA (pB g) (n+1) cap) (n+1) ys))(T:bB (eB (λi=>w.1.size+1<=i/\(iA.slice av n cv).ownBlock=bA i) wr w'))(c:bB ((iA.slice av n cv).ownBlock=bA g\/wr.1.size<=g)):WI w w' C a1 es f (pB g) (n+1) cap ys:=by
 have r:=aB h.fb;refine⟨O.o,λb o e=>⟨λk=>?_,(h.ap b o e).2⟩,Ua h.sz T.o.size,?_,T.o.blk h.fb (by omega),h.bel.trans (T.o.below (by omega) λi m e=>by omega)⟩
 .have:=(h.ap b o e).2;have:=h.sz;simp only[iA.ownBlock,Qa]at k;subst k;obtain l|l:=c.o
  .exact (h.ap b o e).1 l.symm
  omega
 obtain d|⟨b,o,rfl,a,d⟩:=h.fi;exact Ca d;have p:=T.o.block b a λe=>(h.ap b o rfl).1 e.2.symm;have q:∀j,w'.cell? (dB b j)=wr.cell? (dB b j):=λj=>eA.cell?_of_block p;exact La ⟨b,o,rfl,Bb a T.o.size,λi m=>by simp only[q];exact d i m⟩
end
def od(a:jC)(cap:Nat)(k:List jB)(f:jB)(w:eA)(W:rB w a k)(K:yA k<=1048576):
 gA prog 169 #[pA a (yA k) cap,.agg #[oA f.N,oA f.data,zA f.Y]] w λe w'=>∃v,e=uA v/\w'.ownsRow w.1.size 151 3 v (yA (vH k f)) (flat (vH k f))/\tB w w':=by
 have h:=cB W;clear W;go_enter func169,ntmps169;go_wp2_with fail;refine(AZ a cap k f.N _ ((h.o.z yB).z yB) K).mono ?_;rintro e S ⟨v1,rfl,c,u⟩;obtain⟨a1,T,rfl,q⟩:=gH c;have h:=kT k f.N;have H:bB (vH k f=lH (kD k f.N) f):=rfl;generalize kD k f.N=es at *;have G:bB (WI w S S.1.size a1 es f (pB (w.1.size+1)) 0 0 []):=by
  have h:=gB.z (w:=(w.alloc (vA #[oA f.N,oA f.data,zA f.Y] 151)).alloc (vA #[] 151)) (g:=(w.alloc (vA #[oA f.N,oA f.data,zA f.Y] 151)).1.size) (heap_alloc_new _ _) u;refine⟨⟨rfl,La ⟨w.1.size+1,0,#[],rfl,Ia _,by show gB _ _ _ _;simpa using h,Ia _,Oa _,rfl,rfl⟩⟩,λb o e=>?_,Ia _,q.files,(gB.z (gB.z (g:=w.1.size) (heap_alloc_new w (vA #[oA f.N,oA f.data,zA f.Y] 151)) bD) yB).z u,vB (vB yB yB) u⟩;have m:=(zu c) b (by rw[e];rfl);have C:=(wG c) b (by rw[e];rfl);simp at m;exact⟨by simp[iA.ownBlock];omega,C⟩
 clear c q u;go_wp2;go_loopw [5,6,8,15] (λo p _ i wr=>∃(j:Nat)(av:jC)(n cv:Nat),j<=yA es/\i=zA j/\o=pA av n cv/\p=qA (iH es f j)/\n=yA (vL es f j)/\bB (WI w wr S.1.size a1 es f av n cv (flat (vL es f j)))) (λ_ _ _ i _=>yA es-(intOf i).toNat)
 case atStart=>exact⟨0,_,0,0,Oa _,rfl,rfl,rfl,rfl,G.o⟩
 case round=>
  obtain⟨j,av,n,cv,m,rfl,rfl,rfl,X,m⟩:=hrel;have M:=cB X;have C:n<=1048577:=by have:=ie es f j;omega
  have R:=aB m.o.fb;have x0:tC wr w.1.size 0 (oA f.N):=m.o.fb.cell 0;have x1:tC wr w.1.size 1 (oA f.data):=m.o.fb.cell 1;have x2:tC wr w.1.size 2 (zA f.Y):=m.o.fb.cell 2;clear X G;by_cases d:j<yA es
  .obtain ⟨b,o,rfl,hb,c0,c1,c2⟩:=m.o.fi.at d;have t:=cB (m.o.z (pF wr (vA #[oA es[j].N,oA es[j].data,zA es[j].Y] 151)));have P:bB (gB (wr.alloc (vA #[oA es[j].N,oA es[j].data,zA es[j].Y] 151)) wr.1.size #[oA es[j].N,oA es[j].data,zA es[j].Y] 151):=heap_alloc_new _ _;have J:w.1.size+1<=(wr.alloc (vA #[oA es[j].N,oA es[j].data,zA es[j].Y] 151)).1.size:=by simp;omega
   have A:(iH es f j=cA/\Op.bytesLess f.N.toList es[j].N.toList=dA/\Op.bytesLess es[j].N.toList f.N.toList=cA/\(es[j].N.toList==f.N.toList)=cA)\/iH es f (j+1)=iH es f j/\vL es f (j+1)=vL es f j++[es[j]]/\(iH es f j=dA\/iH es f j=cA/\Op.bytesLess f.N.toList es[j].N.toList=cA/\(Op.bytesLess es[j].N.toList f.N.toList=dA\/(es[j].N.toList==f.N.toList)=dA)):=by
    cases l:iH es f j
    .cases r:Op.bytesLess f.N.toList es[j].N.toList
     .refine La ⟨by rw[iM d,l,r];rfl,aEn d l r,La ⟨rfl,rfl,?_⟩⟩;by_cases e:es[j].N.toList=f.N.toList
      .right;simpa using e
      left;exact rL _ _ r (Ne.symm e)
     exact Ca ⟨rfl,rfl,tP r,by rw[Ug];intro e;rw[e,kH]at r;exact absurd r (by simp)⟩
    exact La ⟨by rw[iM d,l];rfl,ig d l,Ca rfl⟩
   obtain⟨l,r,o,o⟩|⟨L,Y,A⟩:=A
   .have F:=cB (aEo d l r);have N:bB (iH es f (j+1)=dA):=by show _=_;rw[iM d,r];simp
    go_wp2_with(first
     |(at_builtin;refine qM rfl _ _ rfl underlying33 qW rfl (by omega) (by omega) rfl t.o.row rfl (by simp) (cs:=#[oA f.N,oA f.data,.int .i64 f.Y]) rfl (by simp[iA.oneCell']) (by omega) (by exact J) ?_;intro V y D I B E;have z:=cB (t.o.app I B E);have x:=B.o.blk P.o (λe=>absurd (wG m.o.row _ e.2) (by omega));have o:tC D wr.1.size 0 (oA es[j].N):=x.cell 0;have o:tC D wr.1.size 1 (oA es[j].data):=x.cell 1;have o:tC D wr.1.size 2 (.int .i64 es[j].Y):=x.cell 2;have Q:w.1.size+1<=D.1.size:=aB z.o.fb;clear x)
     |(at_builtin;refine qM rfl _ _ rfl underlying33 qW rfl (by omega) (by omega) rfl z.o.row rfl rfl (cs:=#[oA es[j].N,oA es[j].data,.int .i64 es[j].Y]) rfl (by simp[iA.oneCell']) (by omega) (by exact Q) ?_;intro o U w6 o C Z))
    refine⟨⟨j+1,_,n+1+1,_,by omega,by go_num,rfl,by rw[N.o],by rw[F.o,Kb,Kb,<-M.o];rfl,?_⟩,by simp[intOf];omega⟩;rw[F.o,flat_append,flat_append,pY,pY];exact cB (z.o.app o C Z)
   have F:=cB Y;have N:=cB L;clear Y L;obtain l|⟨l,r,o|o⟩:=A
   all_goals
    rw[l]at N;go_wp2_with(at_builtin;refine qM rfl _ _ rfl underlying33 qW rfl (by omega) (by omega) rfl t.o.row rfl (by simp) (cs:=#[oA es[j].N,oA es[j].data,zA es[j].Y]) rfl (by simp[iA.oneCell']) (by omega) (by exact J) ?_;intro V y D I B E);refine⟨⟨j+1,_,n+1,_,by omega,by go_num,rfl,by rw[N.o],by rw[F.o,Kb,<-M.o];rfl,?_⟩,by simp[intOf];omega⟩;rw[F.o,flat_append,pY];exact cB (t.o.app I B E)
  have s:bB (j=yA es):=by show _=_;omega
  cases l:iH es f j
  .have O:bB (vH k f=vL es f j++[f]):=by show _=_;rw[H.o,s.o];exact aEm (by rw[<-s.o];exact l)
   go_wp2_with(at_builtin;refine qM rfl _ _ rfl underlying33 qW rfl (by omega) (by omega) rfl m.o.row rfl rfl (cs:=#[oA f.N,oA f.data,zA f.Y]) rfl (by simp[iA.oneCell']) (by omega) (by exact R) ?_;intro V y D I B E);go_ret;rw[O.o,Kb,<-M.o,flat_append,pY];have h:=m.o.app I B E;exact⟨_,rfl,QH (B':=w.1.size) h.row (by omega),h.bel⟩
  have O:bB (vH k f=vL es f j):=by show _=_;rw[H.o,s.o];exact aEl (by rw[<-s.o];exact l)
  go_wp2;go_ret;rw[O.o,<-M.o];exact⟨_,rfl,QH (B':=w.1.size) m.o.row (by omega),m.o.bel⟩
def YG(s:nB)(w:eA)(d:s.size<=maxLen):
 hI 95 #[oA s] w (zA (w64 (gV s.data.toList))):=by
 unfold maxLen at d;go_enter func95,ntmps95;go_wp2;go_loop [3,4,7] (λh _ i=>∃(j R:Nat),j<=s.size/\i=zA j/\h=.int .u64 (R:Nat)/\bB (R=gV (s.data.toList.take j))) (λ_ _ i=>s.size-(intOf i).toNat)
 case atStart=>exact⟨0,gV [],Oa _,rfl,rfl,rfl⟩
 case round=>
  obtain⟨j,R,l,rfl,rfl,a⟩:=hrel;have c:bB (R<18446744073709551616):=by show R<_;rw[a.o];exact dv _
  by_cases b:j<s.size
  .have k:s[j].toNat<256:=s[j].toNat_lt;have f:IntKind.u64.wrap (s[j].toNat:Int)=(s[j].toNat:Int):=by rw[RM,Ic (by omega)]
   go_wp2;go_round
   case rel=>exact⟨j+1,qO R s[j],by omega,by go_num,by rw[<-aNt R s[j] c.o],by show _=_;rw[xj s j b,a.o]⟩
   case measure=>simp[intOf];omega
  go_wp2;go_ret;refine⟨zE ?_,rfl⟩;have e:R=gV s.data.toList:=by rw[a.o,Ra (by simp;omega)]
  rw[show wrap64 (R:Int)=IntKind.i64.wrap (R:Int) by rw[IntKind.wrap_i64,wrap64],wrap_i64,Ic c.o,e]
def QY:nB:=⟨#[97,32,115,101,103,109,101,110,116,32,97,104,101,97,100,32,111,102,32,116,104,101,32,108,97,115,116,32,105,115,32,116,111,114,110]⟩
def aMk:nB:=⟨#[116,104,101,32,115,101,103,109,101,110,116,115,32,97,114,101,32,110,111,32,108,111,103]⟩
def ai:nB:=⟨#[116,104,101,32,112,97,121,108,111,97,100,32,104,97,115,32,110,111,32,102,114,97,109,101]⟩
def aMj:nB:=⟨#[116,104,101,32,108,111,103,32,104,97,115,32,110,111,32,115,101,103,109,101,110,116,115,32,108,101,102,116]⟩
def aGx(a:Nat):iA:=match a with
 |20=>.iface 154 (oA QY)
 |21=>.iface 154 (oA aMk)
 |22=>.iface 154 (oA ai)
 |23=>.iface 154 (oA aMj)
 |c=>eH c
def FR{P:Program}(w:eA){t a:jA}{e:Array (String×jA)}(b:nB)(c:P.underlying t=bA (.interface e)):
 (binOp .eql t .nilIface (.iface a (oA b))).run P w=.ok (qA cA) w:=by
 have h:∀d:Nat,(Op.equalIn (d+2) t .nilIface (.iface a (oA b))).run P w=.ok cA w:=λd=>by
  simp[Op.equalIn,run_underlying c]
 simp only[binOp];simp[Op.equal,Op.maxDepth,h 9998]
def aLb(b:nB)(w:eA):
 hI 72 #[.nilIface,.iface 154 (oA b)] w (qA cA):=by
 have a:(binOp .eql 75 .nilIface (.iface 154 (oA b))).run prog w=.ok (qA cA) w:=FR w b underlying75;go_enter func72,ntmps72;go_wp2;go_ret;exact⟨rfl,rfl⟩
def YQ(a:Nat)(h:a<=6)(b:nB)(w:eA)(c:(aFk==b)=cA)(d:(ah==b)=cA)(f:(aFl==b)=cA)(g:(QZ==b)=cA)(i:(af==b)=cA)(j:(aMi==b)=cA):
 hI 72 #[eH a,.iface 154 (oA b)] w (qA cA):=by
 match a,h with
 |0,_=>exact aLb b w
 |1,_=>exact nF _ _ cA c w
 |2,_=>exact nF _ _ cA d w
 |3,_=>exact nF _ _ cA f w
 |4,_=>exact nF _ _ cA g w
 |5,_=>exact nF _ _ cA i w
 |6,_=>exact nF _ _ cA j w
def xI(a:Nat)(h:a<=6)(w:eA):hI 73 #[eH a] w (zA a):=by
 have c:bB (∀W,hI 72 #[eH a,.iface 154 (oA QY)] W (qA cA)):=λW=>YQ a h _ W (by kernel_rfl) (by kernel_rfl) (by kernel_rfl) (by kernel_rfl) (by kernel_rfl) (by kernel_rfl);have d:bB (∀W,hI 72 #[eH a,.iface 154 (oA aMk)] W (qA cA)):=λW=>YQ a h _ W (by kernel_rfl) (by kernel_rfl) (by kernel_rfl) (by kernel_rfl) (by kernel_rfl) (by kernel_rfl);have f:bB (∀W,hI 72 #[eH a,.iface 154 (oA ai)] W (qA cA)):=λW=>YQ a h _ W (by kernel_rfl) (by kernel_rfl) (by kernel_rfl) (by kernel_rfl) (by kernel_rfl) (by kernel_rfl);have g:bB (∀W,hI 72 #[eH a,.iface 154 (oA aMj)] W (qA cA)):=λW=>YQ a h _ W (by kernel_rfl) (by kernel_rfl) (by kernel_rfl) (by kernel_rfl) (by kernel_rfl) (by kernel_rfl);have i:bB _:=λW=>cq a h W;generalize eH a=E at *;go_enter func73,ntmps73;go_wp2_with fail;apply cO (c.o _);go_wp2_with fail;apply cO (d.o _);go_wp2_with fail;apply cO (f.o _);go_wp2_with fail;apply cO (g.o _);go_wp2_with fail;apply cO (i.o _);go_wp2;go_ret;exact⟨rfl,rfl⟩
def LI(w:eA):hI 73 #[.iface 154 (oA QY)] w (zA 20):=by
 go_enter func73,ntmps73;go_wp2_with fail;refine hC (nF _ _ dA (by kernel_rfl) _) ?_;rintro a rfl;go_wp2;go_ret;exact⟨rfl,rfl⟩
def ga(w:eA):hI 73 #[.iface 154 (oA aMk)] w (zA 21):=by
 go_enter func73,ntmps73;go_wp2_with fail;refine hC (nF _ _ cA (by kernel_rfl) _) ?_;rintro a rfl;go_wp2_with fail;refine hC (nF _ _ dA (by kernel_rfl) _) ?_;rintro a rfl;go_wp2;go_ret;exact⟨rfl,rfl⟩
def PL(w:eA):hI 73 #[.iface 154 (oA ai)] w (zA 22):=by
 go_enter func73,ntmps73;go_wp2_with fail;refine hC (nF _ _ cA (by kernel_rfl) _) ?_;rintro a rfl;go_wp2_with fail;refine hC (nF _ _ cA (by kernel_rfl) _) ?_;rintro a rfl;go_wp2_with fail;refine hC (nF _ _ dA (by kernel_rfl) _) ?_;rintro a rfl;go_wp2;go_ret;exact⟨rfl,rfl⟩
def fw(w:eA):hI 73 #[.iface 154 (oA aMj)] w (zA 23):=by
 go_enter func73,ntmps73;go_wp2_with fail;refine hC (nF _ _ cA (by kernel_rfl) _) ?_;rintro a rfl;go_wp2_with fail;refine hC (nF _ _ cA (by kernel_rfl) _) ?_;rintro a rfl;go_wp2_with fail;refine hC (nF _ _ cA (by kernel_rfl) _) ?_;rintro a rfl;go_wp2_with fail;refine hC (nF _ _ dA (by kernel_rfl) _) ?_;rintro a rfl;go_wp2;go_ret;exact⟨rfl,rfl⟩
def gb(a:Nat)(h:a<=6\/a=20\/a=21\/a=22\/a=23)(w:eA):hI 73 #[aGx a] w (zA a):=by
 obtain h|rfl|rfl|rfl|rfl:=h
 rotate_left
 .exact LI w
 .exact ga w
 .exact PL w
 .exact fw w
 match a,h with
 |0,_=>exact xI 0 (by omega) w
 |1,_=>exact xI 1 (by omega) w
 |2,_=>exact xI 2 (by omega) w
 |3,_=>exact xI 3 (by omega) w
 |4,_=>exact xI 4 (by omega) w
 |5,_=>exact xI 5 (by omega) w
 |6,_=>exact xI 6 (by omega) w
def dp(x:Int)(w:eA):hI 317 #[zA x] w (qA (zB x 1 60000)):=by
 by_cases a:1<=x
 .by_cases b:x<=60000
  .have e:zB x 1 60000=dA:=by simp[zB,a,b]
   rw[e];go_enter func317,ntmps317;go_wp2;go_ret;exact⟨rfl,rfl⟩
  have e:zB x 1 60000=cA:=by simp[zB,b]
  rw[e];go_enter func317,ntmps317;go_wp2;go_ret;exact⟨rfl,rfl⟩
 have e:zB x 1 60000=cA:=by simp[zB,a]
 rw[e];go_enter func317,ntmps317;go_wp2;go_ret;exact⟨rfl,rfl⟩
