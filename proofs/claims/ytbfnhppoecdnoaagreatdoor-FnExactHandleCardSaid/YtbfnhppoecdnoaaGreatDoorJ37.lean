import Derived.Test.YtbfnhppoecdnoaaGreatDoorJ34
set_option maxRecDepth 100000
set_option maxHeartbeats 4000000
set_option linter.defProp false
open ByteArray renaming empty->kA
open Bool renaming false->cA,true->dA
open Option renaming some->bA,none->aA
open List renaming length->vA
namespace Go.Proofs.YtbfnhppoecdnoaaGreatDoor
open Go renaming World->eA,Calls->gA,Value->iA
open Value renaming pointer->qA,string->nA,int->lA,agg->rA,bool->pA,slice->oA
open Ending renaming returned->sA
open IntKind renaming i64->mA
open Go.RowKit Tryz
def kj{K:mE}{L:kG}{p:gB}{a:Int}(h:nR L p a≠0):rE K L p a=(K,L,nR L p a):=by
 have c:jF p=kA ↔ wB p.size 1 60000=cA:=by
  constructor
  .intro e;rw[Yc];intro f;have g:1<=p.size/\p.size<=60000:=by simp only[wB,Sa,Ab]at f;omega
   have:=AG g;rw[e,Nf]at this;omega
  intro f;rw[jF,Ja];intro g;have:wB p.size 1 60000=dA:=by simp[wB];omega
  rw[this]at f;cases f
 unfold nR at h |-
 unfold rE;split;rfl
 rename_i j;rw[Ja j]at h;by_cases b:wB p.size 1 60000=cA
 .rw[Ma b,Ma (c.2 b)]
 rw[Ja b,Ja (fun e=>b (c.1 e))];rw[Ja b]at h;by_cases d:L.last=999999/\bQ L (8+p.size) a=dA
 .rw[Ma d];have g:1<=p.size/\p.size<=60000:=by
   have:wB p.size 1 60000=dA:=by simpa using b
   simp only[wB,Sa,Ab]at this;omega
  have k:=AG g;have i:=d.2;simp only[bQ,Sa,Ab]at i;rw[Ma ⟨i.1,by rw[k];have:=i.2;simp only[Int.natCast_add];omega⟩,Ma d.1]
 .rw[Ja d]at h;exact absurd rfl h
def kh{K:mE}{L:kG}{p:gB}{a:Int}(h:nR L p a=0):rE K L p a=xO K L (jF p) a/\iJ L=dA/\(jF p).size<=60008/\(bQ L (jF p).size a=dA->L.last≠999999):=by
 unfold nR at h;split at h
 .cases h
 rename_i i;split at h
 .cases h
 rename_i m;split at h
 .cases h
 rename_i j;have n:1<=p.size/\p.size<=60000:=by
  have:wB p.size 1 60000=dA:=by simpa using m
  simp only[wB,Sa,Ab]at this;omega
 have l:=AG n;have k:(iJ L&&wB a 1 1000000000)=dA:=by simpa using i
 simp only[Sa]at k;have f:¬jF p=kA:=fun e=>by rw[e,Nf]at l;omega
 have g:(((jF p).size:Nat):Int)=8+(p.size:Int):=by rw[l];omega
 refine⟨?_,k.1,by omega,fun b d=>j ⟨d,by rw[<-g];exact b⟩⟩;unfold rE xO;rw[Ja i,Ja f];by_cases b:bQ L (jF p).size a=dA
 .rw[Ma b];have c:=b;simp only[bQ,Sa,Ab]at c;rw[Ma c,Ja (fun d=>j ⟨d,by rw[<-g];exact b⟩)]
 rw[Ja b,Ja];intro c;apply b;simp[bQ,c.1,c.2]
def aIe{K:mE}{L:kG}{f:gB}{a:Int}(h:fF K.fs K.c K.k K.cr K.fl=cA):xO K L f a=(⟨[],0,0,0,0,cA⟩,L,6):=by
 have b:∀d,lE K d=(⟨[],0,0,0,0,cA⟩,6):=fun d=>by
  unfold lE kR;rw[Ja (by simp[h])]
 unfold xO;split;rw[b,Ma (by simp)];unfold xH;rw[b,Ma (by simp)]
def ckL(L:kG)(x:Nat):kG:=if x=0 then⟨L.last+1,L.last+1,0⟩ else L
def aMb(K:mE)(a:vK):nJ K [a]=lE K a:=by
 exact CF (K:=K) (xs:=[]) a rfl
def aEg{A w:eA}{B P D:Nat}{K:mE}{L:kG}(h:qV A w B P D K L):
 gA prog 223 #[qA (bA ⟨P,0,aA⟩)] w fun e z=>e=sA (gH (nJ K (eP K.fs)).2)/\qV A z B P D (nJ K (eP K.fs)).1 L/\mL w z:=by
 obtain⟨b,c,d,f,g,i,j,_⟩:=xK h.valid;obtain⟨v,r⟩:=h.drive;obtain⟨a,H,rfl,l⟩:=r.files;have s:=yA (fun W(J:kB w W)=>zZ a H K.fs wY W (l.z J) (KI b) (by omega));have k:=yA (aEt (t:=wY) (KI b));have I:=r.cell4;obtain⟨G,_,_,_⟩:=h.wr.cells;have x:=yA h;clear r l b c d f g i j h;go_enter func223,ntmps223;go_wp2_with fail;apply aC (s.o _ eD);intro M m;have p:=yA (x.o.z m);have y:=yA (mL.of m);obtain⟨q,_,_,_⟩:=p.o.wr.cells;clear m s G I x;cases hq:kI K.fs wY (fC wY K.fs) with
 |false=>
  have E:=yA (show eP K.fs=[] from Ja (fun h=>by have:=k.o.1 h;rw[hq]at this;cases this));clear hq k;go_wp2;go_ret;rw[E.o];exact⟨rfl,p.o,y.o⟩
 |true=>
  have E:=yA (show eP K.fs=[ZR] from Ma (k.o.2 hq));have u:=yA (aMh ZR p.o aPd);clear hq k;go_wp2_with fail;apply aC u.o;rintro N ⟨o,n⟩;have F:=yA o;have C:=yA (y.o.trans n);clear o n q u;go_wp2;go_ret;rw[E.o,aMb];exact⟨rfl,F.o,C.o⟩
def bz{C:eA->Prop}{w:eA}{cs:Array iA}{t:TypeId}(k:∀W,kB w W->iB W w.1.size cs t->C W):C (w.alloc (.cells cs t)):=
 k _ vB (iB.new w _ _)
def QY{T w:eA}{B P D:Nat}{K:mE}{L:kG}(c:gB)(h:qV T w B P D K L)(hl:iJ L=dA)(h9:L.last<999999):
 gA prog 185 #[qA (bA ⟨P,0,aA⟩),nA c] w fun e v=>e=sA (gH (nJ K (aP K L c)).2)/\qV T v B P D (nJ K (aP K L c)).1 (ckL L (nJ K (aP K L c)).2):=by
 obtain⟨_,_,hl1,hl2,hl3,_⟩:=aUv hl;have HD:=yA (aEg h);obtain⟨R0,J⟩:∃R,R=nJ K (eP K.fs):=⟨_,rfl⟩
 have x:=yA (LK (eP K.fs) K);rw[<-J]at HD x;have E0:=yA (show nJ K (aP K L c)=if R0.2=0 then nJ R0.1 (AD L.last c++yR L.first (L.last+1-L.first).toNat) else R0 by rw[aP,fV,J]);obtain⟨K0,x0⟩:=R0;clear J h hl;generalize nJ K (aP K L c)=RR at *;go_enter func185,ntmps185;go_wp2_with fail;apply aC HD.o;rintro w1 ⟨hw1,_⟩;have W1:=yA hw1;clear hw1 HD;by_cases hx:x0=0
 .subst hx;simp only[gH];have hwl:IntKind.i64.wrap (L.last+1)=L.last+1:=by rw[IntKind.wrap_i64];omega
  obtain⟨F,c1,c2,c3⟩:=W1.o.wr.cells;have Z:=yA (fun W(M:kB w1 W)=>eR (L.last+1) W (W1.o.z M).tab);have E1:=yA (E0.o.trans (Ma rfl));have Y:=yA (aLb (text:=c) (show 0<=L.last by omega) h9);go_wp2_with fail;apply aC (Z.o _ eD);intro w2 hb2;have W2:=yA (W1.o.z hb2);clear hb2 F c1 c2 c3 W1 Z E0 x;go_upto_region 6 with fail;refine bz (C:=fun W=>Code.wp prog _ _ _ W) ?_;intro w3 hb3 G3;have W3:=yA (W2.o.z hb3);have H3:=yA (show iB w3 w2.1.size (oO (AD L.last c)).toArray _ from G3);clear G3 hb3 W2;generalize w2.1.size=G at *;generalize q:AD L.last c=b at *;have hf5:vA b=5:=by rw[<-q];rfl
  clear q;go_wp2;go_loopw [35] (fun i wr=>∃(j:Nat)(y:mE),j<=5/\i=lA mA j/\xA (nJ K0 (b.take j)=(y,0))/\xA (qV T wr B P D y L)/\xA (iB wr G (oO b).toArray 141)) (fun i _=>5-(RowKit.intOf i).toNat)
  case atStart=>exact⟨0,K0,Oa _,rfl,rfl,W3.o,H3.o⟩
  case round=>
   obtain⟨j,y,hj,rfl,a,d,p⟩:=hrel;by_cases Q:j<5
   .have z:j<vA b:=by omega
    obtain⟨q0,q1,q2,q3,q4⟩:=aUf (aSk p.o) j z;obtain⟨g,s⟩:∃g,g=b[j]:=⟨_,rfl⟩
    have HO:=yA (show LD g=dA from Y.o _ (s ▸ Gb z));have HE:=yA (show b.take (j+1)=b.take j++[g] by rw[s,Pa z]);have HX:=yA (show ∀r,b++r=b.take j++g::(b.drop (j+1)++r) from fun r=>by
     conv=>lhs;rw[<-Za j b,Cb z,<-s]
     simp)
    rw[<-s]at q0 q1 q2 q3 q4;clear s;go_upto_region 9 with fail;refine bz (C:=fun W=>Code.wp prog _ _ _ W) ?_;intro w4 N X4;have W4:=yA (d.o.z N);have G4:=yA (p.o.z N);obtain⟨F,_,_,_⟩:=W4.o.wr.cells;have x0:cC w4 wr.1.size 0 (lA mA g.K):=X4.cell 0;have HS:=yA (fun W(M:kB w4 W)=>aMh g (W4.o.z M) HO.o);have E:=yA (fun W Kq(h:qV T W B P D Kq L)=>h.wr.cells.1);have m:=yA X4;clear q0 q1 q2 q3 q4 N X4;go_wp2_with fail;go_region_held3 (fun v=>cC v P 0 (qA (bA ⟨D,0,aA⟩))/\cC v wr.1.size 0 (lA mA g.K)/\cC v wr.1.size 1 (nA g.N)/\cC v wr.1.size 2 (nA g.tq)/\cC v wr.1.size 3 (nA g.data)/\cC v wr.1.size 4 (lA mA g.size))
     (first|exact⟨E.o _ _ W5.o,V.o.cell 0,V.o.cell 1,V.o.cell 2,V.o.cell 3,V.o.cell 4⟩|(have o:=(Below.refl w4.1.size w4).drew;exact⟨E.o _ _ (W4.o.z o),(m.o.z o).cell 0,(m.o.z o).cell 1,(m.o.z o).cell 2,(m.o.z o).cell 3,(m.o.z o).cell 4⟩))
     (first|(go_at_call 225;apply aC (HS.o _ eD.drew);rintro w5 ⟨hw5,O⟩;have W5:=yA hw5;have V:=yA (O.blk (m.o.z eD.drew) (by decide) (by decide));have G5:=yA (O.blk (G4.o.z eD.drew) (by decide) (by decide))))
    clear F x0 E HS m W4 G4 hw5 O V;have x:=yA (FR y g);obtain⟨⟨H,U⟩,f⟩:∃R,lE y g=R:=⟨_,rfl⟩
    have l:=yA f;rw[f]at W5 x;simp only[f];clear f;by_cases A:U=0
    .subst A;simp only[gH];go_wp2;refine⟨⟨j+1,H,by omega,by go_num,?_,W5.o,G5.o⟩,by simp[RowKit.intOf];omega⟩;show _=_;rw[HE.o,CF g (by rw[a.o]),a.o];exact l.o
    obtain ⟨t,u⟩:=eK A x.o;have HT:=yA u;rw[u];clear u;go_wp2;go_ret;have X:RR=(H,U):=by
     rw[E1.o,HX.o,LL g (by rw[a.o]) (by rw[a.o];show(lE y g).2≠0;rw[l.o];exact A),a.o];exact l.o
    rw[X];exact⟨by rw[HT.o];rfl,by rw[show ckL L (H,U).2=L from Ja A];exact W5.o⟩
   obtain rfl:j=5:=by omega
   have S:=a.o;rw[Ra (by omega)]at S;have E2:=yA (E1.o.trans (show _=nJ y (yR L.first (L.last+1-L.first).toNat) by rw[fV,S,Ma rfl]));obtain⟨F,c1,c2,c3⟩:=d.o.wr.cells;clear a S p E1 H3 W3 Y;go_wp2;obtain⟨cnt,hcnt⟩:∃cnt:Nat,(cnt:Int)=L.last+1-L.first:=⟨(L.last+1-L.first).toNat,by omega⟩
   have hc2:(L.last+1-L.first).toNat=cnt:=by omega
   rw[hc2]at E2;clear hc2;have WS:=yA d.o;clear F c1 c2 c3 d hj Q;go_loopw [11] (fun i wz=>∃(k:Nat)(I:mE),k<=cnt/\i=lA mA (L.first+k)/\xA (nJ y (yR L.first k)=(I,0))/\xA (qV T wz B P D I L)) (fun i _=>(L.last+1-RowKit.intOf i).toNat)
   case atStart=>exact⟨0,y,Oa _,by simp,rfl,WS.o⟩
   case round=>
    obtain⟨k,I,hk,rfl,a,d⟩:=hrel;by_cases Q:k<cnt
    .have hlt3:L.first+(k:Int)<L.last+1:=by omega
     have HO:=yA (aPc (n:=L.first+k) (by omega) (by omega));have Z:=yA (fun W(M:Below _ _ W)=>eR (L.first+k) W (d.o.z M).tab);have HS:=yA (fun W(M:qV T W B P D I L)=>aMh (JB (L.first+k)) M HO.o);have E:=yA (fun W Kq(h:qV T W B P D Kq L)=>h.wr.cells.1);have F:=d.o.wr.cells.1;have hwk:IntKind.i64.wrap (L.first+(k:Int)+1)=L.first+(k:Int)+1:=by rw[IntKind.wrap_i64];omega
     go_wp2_with fail;go_region_held3 (fun v=>cC v P 0 (qA (bA ⟨D,0,aA⟩)))
      (first|exact E.o _ _ W8.o|exact E.o _ _ W7.o|exact E.o _ _ (d.o.z eD.drew))
      (first
      |(go_at_call 224;apply aC (Z.o _ eD.drew);intro w7 hb7;have W7:=yA ((d.o.z eD.drew).z hb7))
      |(go_at_call 225;apply aC (HS.o _ W7.o);rintro w8 ⟨hw8,_⟩;have W8:=yA hw8))
     clear F E HS Z W7 hb7 hw8;have x:=yA (FR I (JB (L.first+k)));obtain⟨⟨H,U⟩,f⟩:∃R,lE I (JB (L.first+k))=R:=⟨_,rfl⟩
     have l:=yA f;rw[f]at W8 x;simp only[f];clear f;by_cases A:U=0
     .subst A;simp only[gH];go_wp2;refine⟨⟨k+1,by omega,by go_num,H,?_,W8.o⟩,by simp[RowKit.intOf];omega⟩;show _=_;rw[RG,CF _ (by rw[a.o]),a.o];exact l.o
     obtain ⟨t,u⟩:=eK A x.o;have HT:=yA u;rw[u];clear u;go_wp2;go_ret;obtain⟨r,hr⟩:=mg L.first k cnt Q
     have X:RR=(H,U):=by
      rw[E2.o,hr,LL _ (by rw[a.o]) (by rw[a.o];show(lE I _).2≠0;rw[l.o];exact A),a.o];exact l.o
     rw[X];exact⟨by rw[HT.o];rfl,by rw[show ckL L (H,U).2=L from Ja A];exact W8.o⟩
    obtain rfl:k=cnt:=by omega
    have hlt3:¬L.first+(k:Int)<L.last+1:=by omega
    have X:=yA (E2.o.trans a.o);obtain⟨F,c1,c2,c3⟩:=d.o.wr.cells;have q1:=iB.free d.o.wr 1;have q2:=iB.free d.o.wr 2;have q3:=iB.free d.o.wr 3;have WF:=yA (((d.o.set (L':=⟨L.last+1,L.last,L.size⟩) 1 (lA mA (L.last+1)) (by simp)).set (L':=⟨L.last+1,L.last+1,L.size⟩) 2 (lA mA (L.last+1)) (by simp)).set (L':=⟨L.last+1,L.last+1,0⟩) 3 (lA mA 0) (by simp));go_wp2;go_ret;rw[X.o];exact⟨rfl,WF.o⟩
 obtain ⟨t,u⟩:=eK hx x.o;have HT:=yA u;rw[u];clear u;go_wp2;go_ret;rw[E0.o.trans (Ja hx)];exact⟨by rw[HT.o];rfl,by rw[show ckL L (K0,x0).2=L from Ja hx];exact W1.o⟩
def aBi(x b a:Int):wB x b a=decide (b<=x/\x<=a):=by
 unfold wB;by_cases c:b<=x<;>by_cases d:x<=a<;>simp[c,d]
def cl{x:gB}:(x.toList==[])=decide (x.size=0):=by
 rw[ByteArray.toList_eq];cases h:x.data.toList with
 |nil=>
  have b:x.size=0:=by have:vA x.data.toList=0:=by rw[h];rfl
                      simpa using this
  simp[b]
 |cons a l=>
  have b:x.size≠0:=by have:vA x.data.toList=vA l+1:=by rw[h];rfl
                      simp at this;omega
  simp[b]
def su(d c:Int)(a b:gB)(w:eA)(s:a.size<=1000000000)(t:b.size<=1000000000):
 qD 107 #[rA #[lA mA d,nA a,nA b,lA mA c]] w (pA (jv ⟨d,a,b,c⟩)):=by
 by_cases o:a.size > 255
 .have E:xA (jv ⟨d,a,b,c⟩=cA):=yA (DN fun h=>by have:=h.1;simp only at this;omega);have j:(a.size:Int) > 255:=by omega
  go_enter func107,ntmps107;go_wp2;go_ret;exact⟨fB E.o.symm,vB⟩
 have j:¬(a.size:Int) > 255:=by omega
 by_cases p:b.size > 65535
 .have E:xA (jv ⟨d,a,b,c⟩=cA):=yA (DN fun h=>by have:=h.2.1;simp only at this;omega);have k:(b.size:Int) > 65535:=by omega
  go_enter func107,ntmps107;go_wp2;go_ret;exact⟨fB E.o.symm,vB⟩
 have k:¬(b.size:Int) > 65535:=by omega
 by_cases l:d=1
 .subst l;have E:xA (jv ⟨1,a,b,c⟩=(c==0)):=yA (by
   by_cases h:c=0
   .rw[ZY (show lP ⟨1,a,b,c⟩ from⟨by simp only;omega,by simp only;omega,Ca ⟨rfl,h⟩⟩)];simp[h]
   rw[DN (show ¬lP ⟨1,a,b,c⟩ from fun f=>f.2.2.elim (fun g=>h g.2) (fun g=>g.elim (fun g=>absurd g.1 (show ¬(1:Int)=2 by decide)) (fun g=>absurd g (show ¬(1:Int)=3 by decide))))];simp[h])
  go_enter func107,ntmps107;go_wp2;go_ret;exact⟨fB E.o.symm,vB⟩
 by_cases m:d=2
 .subst m;by_cases i:a.size=0
  .have E:xA (jv ⟨2,a,b,c⟩=(b.toList==[])):=yA (by
    rw[cl];by_cases h:b.size=0
    .rw[ZY (show lP ⟨2,a,b,c⟩ from⟨by simp only;omega,by simp only;omega,La (Ca ⟨rfl,i,h⟩)⟩),Ac h]
    rw[DN (show ¬lP ⟨2,a,b,c⟩ from fun f=>f.2.2.elim (fun g=>absurd g.1 (show ¬(2:Int)=1 by decide)) (fun g=>g.elim (fun g=>h g.2.2) (fun g=>absurd g (show ¬(2:Int)=3 by decide)))),Ub h])
   have q:(a.toList==[])=dA:=by rw[cl];exact Ac i
   clear i o p;go_enter func107,ntmps107;go_wp2;go_ret;exact⟨fB (by rw[E.o];first|rfl|simp),vB⟩
  .have E:xA (jv ⟨2,a,b,c⟩=cA):=yA (DN fun f=>f.2.2.elim (fun g=>absurd g.1 (show ¬(2:Int)=1 by decide)) (fun g=>g.elim (fun g=>i g.2.1) (fun g=>absurd g (show ¬(2:Int)=3 by decide))));have q:(a.toList==[])=cA:=by rw[cl];exact Ub i
   clear i o p;go_enter func107,ntmps107;go_wp2;go_ret;exact⟨fB E.o.symm,vB⟩
 by_cases n:d=3
 .subst n;have E:xA (jv ⟨3,a,b,c⟩=dA):=yA (ZY ⟨by simp only;omega,by simp only;omega,La (La rfl)⟩);go_enter func107,ntmps107;go_wp2;go_ret;exact⟨fB E.o.symm,vB⟩
 have E:xA (jv ⟨d,a,b,c⟩=cA):=yA (DN fun f=>f.2.2.elim (fun g=>l g.1) (fun g=>g.elim (fun g=>m g.1) (fun g=>n g)));go_enter func107,ntmps107;go_wp2;go_ret;exact⟨fB E.o.symm,vB⟩
def aQo(a:List vE):Prop:=∀i(h:i<vA a),a[i].T.size<=1000000000/\a[i].X.size<=1000000000
def aTy:Op:=Op.convert 9 124 (Operand.tmp 24)
theorem sk(d:Int)(a:Option Addr)(p:Nat)(c:List vE)(w:World)(hf:wI w a c)(hB:aQo c)(hR:bn c)(B:GA d)(hlen:c.length<=2000000):
 Calls prog 60 #[.agg #[.int .i64 d,.slice a c.length p]] w fun e f=>e=.returned (.string (dR d c))/\Below w.1.size w f:=by
 have HW1:xA (∀W,Calls prog 48 #[.int .i64 d,.int .i64 1,.int .i64 1000000000000000] W fun e f=>e=.returned (.bool (decide (1<=d/\d<=1000000000000000)))/\f=W):=fun W=>by have:=vD d 1 1000000000000000 W;rw[aBi]at this;exact this
 have HW2:xA (∀W,Calls prog 48 #[.int .i64 (c.length:Nat),.int .i64 1,.int .i64 500] W fun e f=>e=.returned (.bool (decide (1<=((c.length:Nat):Int)/\((c.length:Nat):Int)<=500)))/\f=W):=fun W=>by have:=vD (c.length:Nat) 1 500 W;rw[aBi]at this;exact this
 have Q:xA (decide (1<=d/\d<=1000000000000000)=false\/decide (1<=((c.length:Nat):Int)/\((c.length:Nat):Int)<=500)=false->dR d c=ByteArray.empty):=fun h=>PA fun hh=>by
  obtain⟨h1,h2,h3,h4,-⟩:=hh;rcases h with h|h<;>exact of_decide_eq_false h ⟨by omega,by omega⟩
 have HN2:xA (decide (1<=d/\d<=1000000000000000)=true->decide (1<=((c.length:Nat):Int)/\((c.length:Nat):Int)<=500)=true->(1<=d/\d<=1000000000000000)/\1<=((c.length:Nat):Int)/\((c.length:Nat):Int)<=500):=fun h h'=>⟨Wd h,Wd h'⟩
 generalize decide (1<=d/\d<=1000000000000000)=d1 at *;generalize decide (1<=((c.length:Nat):Int)/\((c.length:Nat):Int)<=500)=d2 at *;go_enter func60,ntmps60;go_wp2_with fail;refine wE (HW1.o _) ?_;cases d1
 .have E:=yA (Q.o (by simp));go_wp2;go_ret;exact⟨by rw[E.o];rfl,vB⟩
 go_wp2_with fail;refine wE (HW2.o _) ?_;cases d2
 .have E:=yA (Q.o (by simp));go_wp2;go_ret;exact⟨by rw[E.o];rfl,vB⟩
 obtain⟨c1,c3⟩:=HN2.o (by simp) (by simp);clear HW1 HW2 Q HN2;have HF:xA (wI w a c):=hf;have HB:xA (aQo c):=hB;have HR:xA (bn c):=hR;have M:xA (∀W,Calls prog 21 #[.int .i64 8,.int .i64 d] W fun e f=>e=.returned (.string (pB 8 d))/\Below W.1.size W f):=fun W=>lD 8 d W (by omega) B.1 B.2;have L:xA (∀W,Calls prog 21 #[.int .i64 2,.int .i64 (c.length:Nat)] W fun e f=>e=.returned (.string (pB 2 (c.length:Nat)))/\Below W.1.size W f):=fun W=>lD 2 (c.length:Nat) W (by omega) (by omega) (by omega);have hz8:=qB 8 d;have hz2:=qB 2 (c.length:Nat);have HKB:xA (DA d c->dR d c=pB 8 d++pB 2 (c.length:Nat)++lN c):=fun h=>cf h;have HOK:xA (aCx c->DA d c):=fun h=>⟨by omega,by omega,by omega,by omega,h⟩
 generalize pB 8 d=T at *;generalize pB 2 (c.length:Nat)=S at *;have hz10:(T++S).size=10:=by rw[Ka,hz8,hz2]
 obtain⟨CV,CN,hcv,hcn⟩:=GO (T++S) (by omega);have J:xA _:=hcn;clear hf hB hR B hcn;go_upto_region 3 with fail;have X6:xA (iB (w.alloc (.cells #[.int .i64 d,.slice a c.length p] 129)) w.1.size #[.int .i64 d,.slice a c.length p] 129):=iB.new _ _ _;have B0:xA (Below w.1.size w (w.alloc (.cells #[.int .i64 d,.slice a c.length p] 129))):=vB;generalize w.alloc (.cells #[.int .i64 d,.slice a c.length p] 129)=H at *;have A:xA (∀f,Below H.1.size H f->f.cell? ⟨w.1.size,0,none⟩=some (.int .i64 d)/\f.cell? ⟨w.1.size,1,none⟩=some (.slice a c.length p)):=fun f h=>by
  have q:=X6.o.z h;exact⟨q.cell 0,q.cell 1⟩
 obtain⟨x0,x1⟩:=A.o H eD;go_cut [3] (fun s wx=>oN wx H.1.size s (T++S)/\Below H.1.size H wx)
 case first=>
  rw[show Op.convert 9 124 (Operand.tmp 24)=aTy from rfl];have hop:aTy=Op.convert 9 124 (Operand.tmp 24):=rfl;go_region_held3 (fun f=>f.cell? ⟨w.1.size,0,none⟩=some (.int .i64 d)/\f.cell? ⟨w.1.size,1,none⟩=some (.slice a c.length p))
   (first|go_keep|exact A.o _ (oB k4 (J.o _).2)|exact A.o _ k4|exact A.o _ k3)
   (first
    |(go_at_call 21;(fail_if_success (have q:=k3));refine(M.o _).mono ?_;rintro e w3 ⟨rfl,U⟩;have k3:Below H.1.size H w3:=(by exact oB eD.drew U))
    |(go_at_call 21;have q:=k3;clear q;refine(L.o _).mono ?_;rintro e w4 ⟨rfl,V⟩;have k4:Below H.1.size H w4:=(by exact oB k3 V)))
  all_goals(go_wp2_with fail;go_meet)
  all_goals exact⟨(J.o _).1.mono k4.size,oB k4 (J.o _).2⟩
 obtain⟨D,Y⟩:=hcut;rename World=>w5;have B5:xA _:=oB B0.o Y;have HBL:xA (oN w5 w.1.size u3 (T++S)):=D.mono B0.o.size;have HK5:xA _:=fun f h=>A.o f (oB Y h);obtain⟨y0,y1⟩:=HK5.o w5 eD;clear x0 x1 A X6 D Y B0 M L HK5 J hcv;go_wp2;go_loopw [3,5,29] (fun out _ i wr=>∃(k:Nat)(G:ByteArray),k<=c.length/\i=.int .i64 k/\G.size<=10+k*3000000000/\xA (G=T++S++lN (c.take k))/\xA (∀j(h:j<c.length),j<k->lP c[j])/\xA (oN wr w.1.size out G)/\Below w.1.size w wr) (fun _ _ i _=>c.length-(intOf i).toNat)
 case atStart=>
  exact⟨0,T++S,Oa _,rfl,by omega,by show _=_;simp[lN],fun j _ h=>absurd h (by omega),HBL.o,B5.o⟩
 case round=>
  obtain⟨k,G,hk,rfl,hst,HST,u,g,l⟩:=hrel;by_cases C:k<c.length
  .obtain ⟨b,o,rfl,hb,c0,c1,c2,c3⟩:=(HF.o.z l).at C;obtain⟨hn1,hn2⟩:=HB.o k C;obtain⟨b0,d0⟩:=HR.o k C;have v:xA (∀W,Calls prog 107 #[.agg #[.int .i64 c[k].K,.string c[k].T,.string c[k].X,.int .i64 c[k].U]] W fun e f=>e=.returned (.bool (jv c[k]))/\Below W.1.size W f):=fun W=>su _ _ _ _ W hn1 hn2;by_cases y:lP c[k]
   .rw[ZY y]at v;have HK1:xA (∀W,Calls prog 21 #[.int .i64 1,.int .i64 c[k].K] W fun e f=>e=.returned (.string (pB 1 c[k].K))/\Below W.1.size W f):=fun W=>lD 1 _ W (by omega) b0.1 b0.2;have HS8:xA _:=fun W=>rQ c[k].T W hn1;have HS16:xA _:=fun W=>rO c[k].X W hn2;have HN8:xA (∀W,Calls prog 21 #[.int .i64 8,.int .i64 c[k].U] W fun e f=>e=.returned (.string (pB 8 c[k].U))/\Below W.1.size W f):=fun W=>lD 8 _ W (by omega) d0.1 d0.2;have hq1:=qB 1 c[k].K;have hq2:=lH c[k].T;have hq3:=uF c[k].X;have hq4:=qB 8 c[k].U;have HA2:xA (∀j(h:j<c.length),j<k+1->lP c[j]):=fun j h hj=>by
     rcases Gc j k with h1|h1
     .exact u.o j h h1
     .obtain rfl:j=k:=by omega
      exact y
    have HT:=wh c k C;have E2:xA (G++(pB 1 c[k].K++kO c[k].T++qF c[k].X++pB 8 c[k].U)=T++S++lN (c.take (k+1))):=by show _=_;rw[HT,HST.o,dq,Wa]
    clear HT y u b0 d0;generalize pB 1 c[k].K=m at *;generalize kO c[k].T=n at *;generalize qF c[k].X=z at *;generalize pB 8 c[k].U=K at *;generalize c[k].K=ki at *;generalize c[k].T=te at *;generalize c[k].X=tx at *;generalize c[k].U=nu at *;have hq5:(m++n).size=m.size+n.size:=Ka;have hq6:(m++n++z).size=m.size+n.size+z.size:=by rw[Ka,hq5]
    have hq7:(m++n++z++K).size=m.size+n.size+z.size+K.size:=by rw[Ka,hq6]
    have hq8:(G++(m++n++z++K)).size=G.size+(m.size+n.size+z.size+K.size):=by rw[Ka,hq7]
    have n1:¬(9223372036854775807<m.size+n.size):=by omega
    have n2:¬(9223372036854775807<m.size+n.size+z.size):=by omega
    have n3:¬(9223372036854775807<m.size+n.size+z.size+K.size):=by omega
    have HQ:xA (m.size=1/\n.size=1+te.size/\z.size=2+tx.size/\K.size=8):=⟨hq1,hq2,hq3,hq4⟩
    clear hq1 hq2 hq3 hq4;obtain⟨gv,hgv,hgv1,hgv2⟩:=g.o.lt;have P:=yA (iB.new wr #[.int .i64 ki,.string te,.string tx,.int .i64 nu] 71);have HBW:=yA (yG wr (.cells #[.int .i64 ki,.string te,.string tx,.int .i64 nu] 71));go_wp2_with fail;refine(v.o _).mono ?_;rintro e W ⟨rfl,r⟩;have A:=yA (fun f(h:Below W.1.size W f)=>(P.o.z r).z h);have X:=oB HBW.o r;have R:=yA (Vc (g.o.z X) (oB l X));have hBX:=zA (P.o.z r);have hww:=R.o.2.size;have hngv:gv≠wr.1.size:=by omega
    have HGV:=yA hgv;clear g P hb c0 c1 c2 c3 l r X HBW v hgv hgv1 hgv2;go_wp2_with fail;generalize wr.1.size=I at *;clear wr;have x:xA (∀f,Below W.1.size W f->f.cell? ⟨I,0,none⟩=some (.int .i64 ki)/\f.cell? ⟨I,1,none⟩=some (.string te)/\f.cell? ⟨I,2,none⟩=some (.string tx)/\f.cell? ⟨I,3,none⟩=some (.int .i64 nu)):=fun f h=>⟨(A.o f h).cell 0,(A.o f h).cell 1,(A.o f h).cell 2,(A.o f h).cell 3⟩
    obtain⟨x0,x1,x2,x3⟩:=x.o W eD;go_region_held3 (fun f=>f.cell? ⟨I,0,none⟩=some (.int .i64 ki)/\f.cell? ⟨I,1,none⟩=some (.string te)/\f.cell? ⟨I,2,none⟩=some (.string tx)/\f.cell? ⟨I,3,none⟩=some (.int .i64 nu))
     (first|go_keep|exact O|exact x.o _ t|exact x.o _ a0|exact x.o _ hc2|exact x.o _ Z)
     ((first
       |(go_at_call 21;(fail_if_success (have q:=Z));refine(HK1.o _).mono ?_;rintro e w1 ⟨rfl,hb1⟩;have Z:Below W.1.size W w1:=(Below.refl _ W).drew.trans hb1)
       |(go_at_call 106;refine(HS8.o _).mono ?_;rintro e w2 ⟨rfl,hb2⟩;have hc2:=oB Z hb2)
       |(go_at_call 29;refine(HS16.o _).mono ?_;rintro e w3 ⟨rfl,U⟩;have a0:=oB hc2 U)
       |(go_at_call 21;have q:=a0;clear q;refine(HN8.o _).mono ?_;rintro e w4 ⟨rfl,V⟩;have t:=oB a0 V)
       |(have q:=t;clear q;refine WZ _ (by rfl) _ _ (by rfl) w.1.size _ G (m++n++z++K) (by rfl) (by exact R.o.1.z t) (by rfl) (by have:=t.size;omega) (by have:=HQ.o;omega) ?_;intro v5 w5 F hB5 hk5;have O:=XT (hk5 I (by have:=t.size;omega) (fun e=>hngv (Lc (HGV.o.symm.trans e)))) (x.o _ t))))
    have HO5:=yA (Vc F ((oB R.o.2 t).trans hB5));clear F hB5 hk5 O;have hst5:(G++(m++n++z++K)).size<=10+(k+1)*3000000000:=by have:=HQ.o;omega
    clear hq5 hq6 hq7 hq8 n1 n2 n3;generalize G++(m++n++z++K)=st5 at *;go_wp2;exact⟨⟨k+1,st5,by omega,by go_num,hst5,E2.o,HA2.o,HO5.o.1,HO5.o.2⟩,by simp[intOf];omega⟩
   .have E:xA _:=aAy C y d;rw[DN y]at v;generalize c[k].K=ki at *;generalize c[k].T=te at *;generalize c[k].X=tx at *;generalize c[k].U=nu at *;clear y u g;go_wp2_with fail;refine(v.o _).mono ?_;rintro e W ⟨rfl,r⟩;have BW:xA _:=oB (oB l vB) r;clear r v;go_wp2;go_ret;exact⟨by rw[E.o];rfl,BW.o⟩
  .have N:aCx c:=fun j h=>u.o j h (by omega);have E2:xA (G=dR d c):=by
    show _=_;rw[HST.o,Ra (by omega),HKB.o (HOK.o N)]
   have hbk:=DX g.o;rw[E2.o]at hbk;clear g N;go_wp2;go_ret;exact⟨rfl,l⟩
section
variable {s:gB} {p p0:Option Nat} {q:Nat}
def zL(l:eC):Nat:=l.N.size+l.V.size+3
theorem pe(h:(fg s p).2=bA q):∃a,p=bA a/\a+zL (fg s p).1=q/\q<=s.size:=by
 obtain⟨b,d,e⟩:=ZC h;obtain⟨a,c,f⟩:=ZC d;refine⟨a,c,?_,IN h⟩;show a+((lJ s 1 p).1.size+(lJ s 2 (lJ s 1 p).2).1.size+3)=q;omega
theorem aFp(p:Option Nat):zL (fg s p).1<=2*s.size+3:=by grind [zL,fg,lJ,FC]
theorem pf(a:List eC)(x:eC):(jD (a++[x])).size=(jD a).size+zL x:=by
 rw[kK,kK,iP];simp[nD,zL];omega
theorem fh(k:Nat):∀q,(GB s p0 k).2=bA q->∃a,p0=bA a/\a+(jD (GB s p0 k).1).size=q/\((∀b,p0=bA b->b<=s.size)->q<=s.size):=yf (z:=zL) (sz:=fun l=>(jD l).size) rfl pf (fun _ _=>pe) k
theorem aKb(a:∀b,p0=bA b->b<=s.size)(k:Nat):(jD (GB s p0 k).1).size<=3*s.size+3:=Ua (aBm (z:=zL) (sz:=fun l=>(jD l).size) rfl pf (fun _ _=>pe) (fun p=>aFp p) a k) (by omega)
theorem aBk(x:cF):(nT x).size=9+(jD x.B).size:=by rw[jQ,kK];omega
theorem aBn(h:(lSm s p).2=bA q):∃a,p=bA a/\a+(nT (lSm s p).1).size=q/\q<=s.size:=by
 obtain⟨c,f,g⟩:=pg h;obtain⟨b,e,i,_⟩:=fh _ _ f;obtain⟨a,d,j⟩:=pg e;refine⟨a,d,?_,iY h⟩;rw[aBk];show a+(9+(jD (yh s p).1).size)=q;rw[yh];omega
theorem aKe(p:Option Nat):(nT (lSm s p).1).size<=3*s.size+12:=by
 have:=aKb (s:=s) (p0:=(OM s p).2) (fun b a=>iY a) (OM s p).1;rw[aBk];show 9+(jD (GB s (OM s p).2 (OM s p).1).1).size<=_;omega
theorem pj(a:List cF)(x:cF):(sE (a++[x])).size=(sE a).size+(nT x).size:=by rw[wM,Ka];simp[sE]
theorem aOn(k:Nat):∀q,(WL s p0 k).2=bA q->∃a,p0=bA a/\a+(sE (WL s p0 k).1).size=q/\((∀b,p0=bA b->b<=s.size)->q<=s.size):=yf (z:=fun x=>(nT x).size) (sz:=fun l=>(sE l).size) rfl pj (fun _ _=>aBn) k
theorem aKf(a:∀b,p0=bA b->b<=s.size)(k:Nat):(sE (WL s p0 k).1).size<=4*s.size+12:=Ua (aBm (z:=fun x=>(nT x).size) (sz:=fun l=>(sE l).size) rfl pj (fun _ _=>aBn) (fun p=>aKe p) a k) (by omega)
theorem RP:∀a:List cF,vA a+fE a<=(sE a).size
 |[]=>Ia _
 |x::r=>by
  have h:=RP r;have e:=jQ x;show vA r+1+(vA x.B+nD x.B+fE r)<=(nT x++sE r).size;rw[Ka];omega
theorem aKc(s:gB):cJ (lRq s)<=6*s.size+12:=by
 have c:(IQ s).1.size<=s.size:=by rw[IQ];split;exact FC ..;exact Oa _
 have d:(CW s).1.size<=s.size:=by rw[CW];split;exact FC ..;exact Oa _
 have e:vA (fp s).1+fE (fp s).1<=4*s.size+12:=by
  rw[fp];split;exact Ua (RP _) (aKf (fun b a=>iY a) _);exact Oa _
 show(IQ s).1.size+(CW s).1.size+vA (fp s).1+fE (fp s).1<=_;omega
end
def aBg{x:gB}:(x.toList==[])=decide (x.size=0):=by
 rw[ByteArray.toList_eq];cases h:x.data.toList with
 |nil=>
  have b:x.size=0:=by have:vA x.data.toList=0:=by rw[h];rfl
                      simpa using this
  simp[b]
 |cons a l=>
  have b:x.size≠0:=by have:vA x.data.toList=vA l+1:=by rw[h];rfl
                      simp at this;omega
  simp[b]
def shV(k:Int):iA:=rA #[pA (qU k),pA (k==1),pA (oU k),pA (zU k),pA (k==1||k==2||k==3||k==4)]
def TF(k:Int)(w:eA):qD 125 #[lA mA k] w (pA (decide (1<=k/\k<=6))):=by
 by_cases a:1<=k
 .by_cases b:k<=6
  .rw[Ac (show 1<=k/\k<=6 from⟨a,b⟩)];go_enter func125,ntmps125;go_wp2;go_ret;exact⟨rfl,eD⟩
  rw[Ub (show ¬(1<=k/\k<=6) from fun h=>b h.2)];go_enter func125,ntmps125;go_wp2;go_ret;exact⟨rfl,eD⟩
 rw[Ub (show ¬(1<=k/\k<=6) from fun h=>a h.1)];go_enter func125,ntmps125;go_wp2;go_ret;exact⟨rfl,eD⟩
def aTm(r:xG)(a:iC)(c:Nat)(w:eA):Prop:=
 gA prog 128 #[shV r.K,rA #[lA mA r.K,nA r.T,nA r.R,lA mA r.U,oA a (vA r.P) c]] w fun e d=>∃b,e=sA (pA b)/\(b=dA ↔ YM r)/\kB w d
def aEm(t s m n c:Bool)(k l:Int)(j i:gB)(z:Nat)(a:iC)(o:Nat)(w:eA):
 qD 128 #[rA #[pA t,pA s,pA m,pA n,pA c],rA #[lA mA k,nA j,nA i,lA mA l,oA a z o]] w (pA ((t||decide (j.size=0)) &&(s||decide (z=0)) &&(m||decide (i.size=0)) &&(n||decide (l=0)))):=by
 have d:=aBg (x:=j);have f:=aBg (x:=i);have y:j.toList.isEmpty=decide (j.size=0):=by rw[<-d];simp
 have B:i.toList.isEmpty=decide (i.size=0):=by rw[<-f];simp
 have g:((z:Int)==0)=decide (z=0):=by rw[Qb];simp
 have A:decide ((z:Int)=0)=decide (z=0):=by rw[Qb];simp
 have h:(l==0)=decide (l=0):=by rw[Qb];simp
 generalize decide (j.size=0)=p at *;generalize decide (z=0)=q at *;generalize decide (i.size=0)=r at *;generalize decide (l=0)=u at *;have C:∀t b:Bool,(t=dA\/t=cA/\b=dA)\/t=cA/\b=cA:=by decide
 rcases C t p with(rfl|⟨rfl,rfl⟩)|⟨rfl,rfl⟩
 rotate_right
 .go_enter func128,ntmps128;go_wp2;go_ret;exact⟨rfl,oB vB vB⟩
 all_goals
  rcases C s q with(rfl|⟨rfl,rfl⟩)|⟨rfl,rfl⟩
  rotate_right
  go_enter func128,ntmps128;go_wp2;go_ret;exact⟨rfl,oB vB vB⟩
 all_goals
  rcases C m r with(rfl|⟨rfl,rfl⟩)|⟨rfl,rfl⟩
  rotate_right
  go_enter func128,ntmps128;go_wp2;go_ret;exact⟨rfl,oB vB vB⟩
 all_goals rcases C n u with(rfl|⟨rfl,rfl⟩)|⟨rfl,rfl⟩
 all_goals go_enter func128,ntmps128;go_wp2;go_ret;exact⟨rfl,oB vB vB⟩
def aHb(r:xG)(a:iC)(b:Nat)(w:eA)(_hk:1<=r.K/\r.K<=6):aTm r a b w:=
 (aEm (qU r.K) (r.K==1) (oU r.K) (zU r.K) _ r.K r.U r.T r.R (vA r.P) a b w).mono fun e c q=>⟨_,q.1,by
  unfold YM;cases qU r.K<;>cases oU r.K<;>cases zU r.K<;>by_cases h:r.K=1<;>simp[h,and_assoc,and_comm,and_left_comm],q.2⟩
def aJh(x:eC):List iA:=[nA x.N,nA x.V]
def aOt(w:eA):PredBelow prog 170 #[] (fun x=>rA (aJh x).toArray) (fun x:eC=>decide ((x.N.size:Int) > 255)) w:=fun W x a=>by
 show gA prog 170 #[rA #[nA x.N,nA x.V]] W _;go_enter func170,ntmps170;go_wp2;go_ret;exact⟨rfl,a.alloc a.size _⟩
def aEz(a:iC)(c:Nat)(d:iA)(w:eA):qD 205 #[oA a 0 c,d] w (lA mA (-1)):=by
 go_enter func205,ntmps205;go_wp2;go_loopw [5,8] (fun _ i wr=>i=lA mA 0/\kB w wr) (fun _ _ _=>0)
 case atStart=>exact⟨rfl,eD⟩
 case round=>
  obtain⟨rfl,b⟩:=hrel;go_wp2;go_ret;exact⟨rfl,b⟩
def aIw(a:iC)(c:Nat)(d:iA)(w:eA):qD 169 #[oA a 0 c,d] w (pA cA):=by
 have h:xA (∀W,qD 205 #[oA a 0 c,d] W (lA mA (-1))):=fun W=>aEz a c d W;go_enter func169,ntmps169;go_wp2_with fail;apply aC (h.o _);intro i b;have g:=yA b;clear b;go_wp2;go_ret;exact⟨rfl,g.o⟩
def aIv(a:iC)(c:Nat)(g:List eC)(w:eA)(p:yD w a g)(r:vA g<=2000000):
 qD 169 #[oA a (vA g) c,.func (.func 170) #[] #[]] w (pA (g.any fun x=>decide ((x.N.size:Int) > 255))):=by
 rcases p with rfl|⟨b,o,rfl,k,h⟩;exact aIw a c _ w;have n:∀args w,(callFunc 170 args).run prog w=.ok (.enter 170 args) w:=enters_of func170 (by kernel_rfl) rfl;haveI:=aOo
 have d:=AnyQ.slices_ContainsFunc contL 2 isAgg116 sizeOf116 aJh (fun _=>rfl) (fun x:eC=>decide ((x.N.size:Int) > 255)) 170 #[] n b o (vA g) c g w (aOt w) (Ia _) (by omega) k (fun j m i v f=>by
  have l:=h j m;have e:g[j]! = g[j]:=getElem!_pos g j m;rw[e]at f;match i,f with
  |0,f=>simp[aJh]at f;rw[<-f];exact l.1
  |1,f=>simp[aJh]at f;rw[<-f];exact l.2
  |i+2,f=>simp[aJh]at f)
 change gA prog 169 _ _ _ at d;rw[Rb]at d;exact d
def VY(r:xG)(a:iC)(y:Nat)(w:eA)(s:jI w a r.P)(X:vA r.P<=2000000)(g:∀i(h:i<vA r.P),vA r.P[i].B<=2000000)(Y:r.T.size<=1000000000)(B:Bool)(z:B=dA ↔ xY r):
 qD 129 #[rA #[lA mA r.K,nA r.T,nA r.R,lA mA r.U,oA a (vA r.P) y]] w (pA B):=by
 have f:xA (¬xY r->B=cA):=fun h=>by
  cases B with
  |false=>rfl
  |true=>exact absurd (z.1 rfl) h
 have p:xA (xY r->B=dA):=fun h=>z.2 h;clear z;by_cases Q:(r.T.size:Int) > 255
 .have E:xA (¬xY r):=fun h=>by have:=h.1;omega
  clear s g;go_enter func129,ntmps129;go_wp2;go_ret;exact⟨fB (f.o E.o).symm,vB⟩
 by_cases R:(vA r.P:Int) > 500
 .have E:xA (¬xY r):=fun h=>by have:=h.2.1;omega
  clear s g;go_enter func129,ntmps129;go_wp2;go_ret;exact⟨fB (f.o E.o).symm,vB⟩
 have I:xA (jI w a r.P):=s;have v:=yA g;clear s g;go_enter func129,ntmps129;go_wp2;go_loopw [4,18] (fun _ i wr=>∃k:Nat,k<=vA r.P/\i=lA mA k/\xA (∀j(h:j<vA r.P),j<k->aRi r.P[j])/\kB w wr) (fun _ i _=>vA r.P-(intOf i).toNat)
 case atStart=>exact⟨0,Oa _,rfl,fun j _ h=>absurd h (by omega),vB⟩
 case round=>
  obtain⟨k,V,rfl,m,c⟩:=hrel;by_cases l:k<vA r.P
  .obtain ⟨b,o,F,H,rfl,T,P,J,t⟩:=(I.o.z c).at l;have A:=v.o k l;have n:xA (∀W,kB wr W->qD 169 #[.slice F (vA r.P[k].B) H,.func (.func 170) #[] #[]] W (pA (r.P[k].B.any fun x=>decide ((x.N.size:Int) > 255)))):=fun W L=>aIv F H _ W (t.z L) A;by_cases S:(vA r.P[k].B:Int) > 255
   .have E:xA (¬xY r):=fun h=>by have:=(h.2.2 k l).1;omega
    clear n t;go_wp2;go_ret;exact⟨fB (f.o E.o).symm,oB c vB⟩
   cases hany:(r.P[k].B.any fun x=>decide ((x.N.size:Int) > 255)) with
   |true=>
    have E:xA (¬xY r):=fun h=>by
     obtain⟨x,O,M⟩:=Zd.1 hany;obtain⟨i,q,rfl⟩:=List.mem_iff_getElem.1 O;have:=(h.2.2 k l).2 i q;have N:=Wd M;omega
    rw[hany]at n;clear t hany;go_wp2_with fail;apply aC (n.o _ vB);intro D d;have u:xA (kB w D):=oB (oB c vB) d;clear d;go_wp2;go_ret;exact⟨fB (f.o E.o).symm,u.o⟩
   |false=>
    have E:xA (∀j(h:j<vA r.P),j<k+1->aRi r.P[j]):=fun j h U=>by
     rcases Gc j k with G|G;exact m.o j h G;obtain rfl:j=k:=by omega
     refine⟨by omega,fun i q=>?_⟩;have K:=List.any_eq_false.1 hany r.P[j].B[i] (Gb q);simp at K;omega
    rw[hany]at n;clear t hany;go_wp2_with fail;apply aC (n.o _ vB);intro D d;have u:xA (kB w D):=oB (oB c vB) d;clear d;go_wp2;exact⟨⟨k+1,by omega,by go_num,E.o,u.o⟩,by simp[intOf];omega⟩
  have E:xA (xY r):=⟨by omega,by omega,fun i q=>m.o i q (by omega)⟩
  go_wp2;go_ret;exact⟨fB (p.o E.o).symm,c⟩
def jj(r:xG)(a:iC)(q:Nat)(w:eA)(t:jI w a r.P)(U:cJ r<=1048576):
 qD 130 #[rA #[lA mA r.K,nA r.T,nA r.R,lA mA r.U,oA a (vA r.P) q]] w (lA mA ((r.T.size+r.R.size+mO r.P:Nat):Int)):=by
 have H:cJ r=r.T.size+r.R.size+vA r.P+fE r.P:=rfl;have K:=aQg r.P;have x:xA (jI w a r.P):=t;clear t;go_enter func130,ntmps130;go_wp2;go_loopw [3,5,7,18,25] (fun z _ _ i _ wr=>∃k:Nat,k<=vA r.P/\i=lA mA k/\z=lA mA ((r.T.size+r.R.size+mO (r.P.take k):Nat):Int)/\kB w wr) (fun _ _ _ i _ _=>vA r.P-(intOf i).toNat)
 case atStart=>exact⟨0,Oa _,rfl,by simp[mO],vB⟩
 case round=>
  obtain⟨k,S,rfl,rfl,d⟩:=hrel;by_cases l:k<vA r.P
  .obtain ⟨b,o,B,X,rfl,R,O,C,u⟩:=(x.o.z d).at l;have p:=bg r.P k l;have I:mO (r.P.take (k+1))<=mO r.P:=by
    have e:=BG (r.P.take (k+1)) (r.P.drop (k+1));rw[Za]at e;omega
   have F:=rY r.P k l;have E:eH r.P[k]=vA r.P[k].B+nD r.P[k].B:=rfl;have y:xA (∀W,kB wr W->yD W B r.P[k].B):=fun W h=>u.z h;have n:xA (mO (r.P.take (k+1))=mO (r.P.take k)+nD r.P[k].B):=p;clear u p;rename eA=>v;generalize r.P[k].B=g at *;generalize mO (r.P.take k)=A at *;generalize r.P[k].bits=N at *;go_wp2;go_loopw [3,7,25] (fun z _ j wr=>∃m:Nat,m<=vA g/\j=lA mA m/\z=lA mA ((r.T.size+r.R.size+A+nD (g.take m):Nat):Int)/\kB v wr) (fun _ _ j _=>vA g-(intOf j).toNat)
   case atStart=>exact⟨0,Oa _,rfl,by simp[nD],vB⟩
   case round=>
    obtain⟨m,T,rfl,rfl,c⟩:=hrel;by_cases f:m<vA g
    .obtain ⟨M,V,rfl,D,P,Q⟩:=(y.o _ c).at f;have s:=xU g m f;have G:=tR g (m+1);go_wp2;refine⟨⟨m+1,by omega,by go_num,?_,oB c vB⟩,by simp[intOf];omega⟩;refine Kd (iA.int .i64) ?_;have J:=n.o;rw[s];unfold wrap64;omega
    have e:g.take m=g:=Ra (by omega);rw[e];go_wp2;refine⟨⟨k+1,by omega,by go_num,?_,oB d c⟩,by simp[intOf];omega⟩;refine Kd (iA.int .i64) ?_;rw[n.o];omega
  .have e:r.P.take k=r.P:=Ra (by omega);rw[e];go_wp2;go_ret;exact⟨rfl,d⟩
def RT.laterL{w a:eA}{B:Nat}{r:Rd}(h:RT w B r)(b:kB w a):RT a B r:=by
 obtain⟨t,h⟩:=h;exact⟨t,h.z b⟩
def pk(B:Nat)(r:Rd)(w:eA)(hB:RT w B r)(hs:r.rest.size<=1000000000):
 gA prog 168 #[qA (bA ⟨B,0,aA⟩)] w fun e l=>∃g N,e=sA (.slice (bA ⟨g,0,aA⟩) (vA (vW r).1) N)/\l.ownsRow w.1.size 116 2 (.slice (bA ⟨g,0,aA⟩) (vA (vW r).1) N) (vA (vW r).1) (xD (vW r).1)/\RT l B (vW r).2/\tD B w l:=by
 have HC:xA (gA prog 166 #[qA (bA ⟨B,0,aA⟩),lA mA 1] w fun e l=>e=sA (lA mA ((JK r).1:Nat))/\RT l B (JK r).2/\tD B w l):=by
  have h:=aV B r 1 w hB (by omega) hs;have e:kD 1 r=JK r:=by rw[JK]
  have hl:(JK r).1<256:=by have:=FG 1 r;rw[<-e];omega
  rw[e,tG (by omega)]at h;exact h
 have v:B<w.1.size:=by obtain⟨t,h⟩:=hB;exact zA h
 have hz:(JK r).2.rest.size<=1000000000:=by rw[JK];exact Ua (sP 1 r).2.2 hs
 have hcl:(JK r).1<=255:=by have:=FG 1 r;rw[JK];omega
 have J:xA (vW r=tM (JK r).2 ((JK r).1)):=by show _=_;rw[vW]
 rw[J.o];clear J hB;generalize (JK r).2=f at *;generalize (JK r).1=n at *;obtain⟨ti,F,V,X,Y⟩:=SU;have HI:xA (prog.info? 116=bA ti):=F;have hmk:∀W:eA,(Instr.makeSlice 65 (lA mA 0) (lA mA (n:Nat))).run prog W=.ok (oA (bA ⟨W.1.size,0,aA⟩) 0 n) (W.alloc (.cells (madeCells #[nA kA,nA kA] (n*2)) 116)):=fun W=>by
  have hr:=run_make (P:=prog) W 65 116 ti _ underlying65 F V .i64 mA 0 (n:Nat) (by omega) (by omega) (by rw[Y];omega) (by omega);simp only[Hd,X]at hr;exact hr
 clear F;go_enter func168,ntmps168;go_wp2_with fail;apply aC HC.o;rintro w1 ⟨S,A⟩;have H1:xA (RT w1 B f/\tD B w w1):=⟨S,A⟩
 have hz1:=A.size;clear S A HC;go_wp2;clear hmk;go_loopw [4,5,11] (fun out _ i wr=>∃(k:Nat)(d:List eC)(g z:Nat),k<=n/\i=lA mA k/\vA d<=k/\k<=vA d/\out=oA (bA ⟨g,0,aA⟩) (vA d) z/\xA (d=(tM f k).1)/\xA (RT wr B (tM f k).2)/\xA (wr.ownsRow w.1.size 116 2 (oA (bA ⟨g,0,aA⟩) (vA d) z) (vA d) (xD d))/\xA (tD B w wr)) (fun _ _ i _=>n-(intOf i).toNat)
 case atStart=>
  refine⟨0,[],_,_,Oa _,rfl,Oa _,Oa _,rfl,rfl,RT.laterL H1.o.1 vB,⟨rfl,La ⟨w1.1.size,n,_,rfl,hz1,heap_alloc_new _ _,Oa _,by simp[maxLen];omega,size_madeCells _ _,rfl⟩⟩,H1.o.2.alloc _⟩
 case round=>
  obtain⟨k,d,g,z,hk,rfl,hyl,hyl2,rfl,HY,y,m,x⟩:=hrel;by_cases hlt:k<n
  .have p:(tM f k).2.rest.size<=1000000000:=by have:=(gl f k).1;omega
   have j:(sC 1 (tM f k).2).2.rest.size<=1000000000:=by have:=(JT 1 (tM f k).2).2;omega
   have L:xA (∀W,RT W B (tM f k).2->gA prog 167 #[qA (bA ⟨B,0,aA⟩),lA mA 1] W fun e l=>e=sA (nA (sC 1 (tM f k).2).1)/\RT l B (sC 1 (tM f k).2).2/\tD B W l):=fun W h=>CI B _ 1 W h (by omega) p;have M:xA (∀W,RT W B (sC 1 (tM f k).2).2->gA prog 167 #[qA (bA ⟨B,0,aA⟩),lA mA 2] W fun e l=>e=sA (nA (sC 2 (sC 1 (tM f k).2).2).1)/\RT l B (sC 2 (sC 1 (tM f k).2).2).2/\tD B W l):=fun W h=>CI B _ 2 W h (by omega) j;have K:xA (tM f (k+1)=(d++[⟨(sC 1 (tM f k).2).1,(sC 2 (sC 1 (tM f k).2).2).1⟩],(sC 2 (sC 1 (tM f k).2).2).2)):=by show _=_;rw[cU,CA,HY.o]
   clear p j;generalize sC 2 (sC 1 (tM f k).2).2=b at *;generalize sC 1 (tM f k).2=a at *;generalize a.1=H at *;generalize b.1=I at *;go_wp2_with fail;apply aC (L.o _ y.o);rintro w2 ⟨T,C⟩;have Z:xA (RT w2 B a.2/\tD B w w2/\w2.ownsRow w.1.size 116 2 (oA (bA ⟨g,0,aA⟩) (vA d) z) (vA d) (xD d)):=⟨T,x.o.trans C,AY m.o C v⟩
   clear T C L y m x;go_wp2_with fail;apply aC (M.o _ Z.o.1);rintro u ⟨U,D⟩;have G:xA (RT u B b.2/\tD B w u/\u.ownsRow w.1.size 116 2 (oA (bA ⟨g,0,aA⟩) (vA d) z) (vA d) (xD d)):=⟨U,Z.o.2.1.trans D,AY Z.o.2.2 D v⟩
   have hz3:w.1.size<=u.1.size:=G.o.2.1.size;clear U D M Z;go_wp2_with(at_builtin;refine wpList_append_lies _ rfl _ _ _ rfl w.1.size 116 ti _ 2 32 underlying65 HI.o V X Y rfl (by omega) (oA (bA ⟨g,0,aA⟩) (vA d) z) (vA d) (xD d) rfl (by exact jC G.o.2.2 vB) ⟨u.1.size,0,aA⟩ 1 1 [nA H,nA I] rfl rfl (by exact eA.news_of_block (cs:=#[nA H,nA I]) (heap_alloc_new _ _)) (by simp[iA.oneCell']) (by omega) (by simp[maxLen];omega) (by omega) (by simp;omega) (u.1.size+1) (by simp) ?_;intro g5 O w5 o c hat5 hlt5);have E:w5.heap[B]?=u.heap[B]?:=(c.block B (by simp;omega) (fun e=>by have:=qI G.o.2.2 B e.symm;omega)).trans ((yG u _).block B (by omega));have Q:tD B w w5:=by
    have s:=G.o.2.1;refine⟨c.os.trans s.os,c.tape.trans s.tape,c.output.trans s.output,?_,fun q hq hne=>?_⟩;have:=c.size;simp at this;omega;exact (c.block q (by simp;omega) (fun e=>by have:=qI G.o.2.2 q e.symm;omega)).trans (((yG u _).block q (by omega)).trans (s.block q hq hne))
   have R:vA (d++[(⟨H,I⟩:eC)])=vA d+1:=by simp
   have hxs:xD d++[nA H,nA I]=xD (d++[⟨H,I⟩]):=by rw[aI];rfl
   rw[hxs,<-R]at o;refine⟨⟨k+1,d++[(⟨H,I⟩:eC)],g5,O,by omega,by go_num,by omega,by omega,by rw[R],by show _=_;rw[K.o],?_,o,Q⟩,by simp[intOf];omega⟩;show RT w5 B (tM f (k+1)).2;rw[K.o];obtain⟨tt,hh⟩:=G.o.1;exact⟨tt,E.trans hh⟩
  have e:k=n:=by omega
  subst e;have hY:=HY.o;clear HY;subst hY;go_wp2;go_ret;exact⟨g,z,rfl,m.o,y.o,x.o⟩
