import Derived.Laws.CopyOwn
import Derived.Test.YtbfnhppoecdnoaaGreatDoorJ42
set_option maxRecDepth 100000
set_option maxHeartbeats 16000000
set_option linter.defProp false
open Option renaming none->aA,some->bA
open Bool renaming true->dA,false->cA
open ByteArray renaming empty->kA
open List renaming length->vA
namespace Go.Proofs.YtbfnhppoecdnoaaGreatDoor
open Go renaming World->eA,Value->iA,Calls->gA
open Obj renaming cells->tA
open Value renaming agg->rA,string->nA,tuple->uA,bool->pA,int->lA,pointer->qA,slice->oA
open Ending renaming returned->sA
open IntKind renaming i64->mA
open Go.RowKit Tryz
section
attribute [local go_sem] zG tH cO iB.drewI fO.drewI fO.new fO.alloc fO.alloc2
def jT{w a:eA}{cs:Array iA}{t:TypeId}(h:Below (w.alloc (tA cs t)).1.size (w.alloc (tA cs t)) a):iB a w.1.size cs t:=(iB.new w cs t).z h
def KJ{w a:eA}{cs:Array iA}{t:TypeId}(h:Below (w.alloc (tA cs t)).drew.1.size (w.alloc (tA cs t)).drew a):iB a w.1.size cs t:=(iB.new w cs t).z ⟨h.os,h.tape,h.output,h.size,h.block⟩
section
variable {wv wf:eA} {M:oC} {cs:Array iA} {X L:Nat}
theorem aCh(c:FN wf M cs)(b:iB wf X (dC aA 0 aA 0 qK) 43)(a:wv.1.size<=X)(k:kB wv wf):iB (wf.setRow X cs) X cs 43/\FN (wf.setRow X cs) M cs/\wv.1.size<=X/\kB wv (wf.setRow X cs):=
 ⟨b.row,c.store b (bH _ _ _ _ _) (sI _ _ _),a,below_setRow k a _⟩
theorem aQb(a:FN wf M cs)(k:kB wv wf):iB ((wf.alloc (tA (dC aA 0 aA 0 qK) 43)).setRow wf.1.size cs) wf.1.size cs 43/\FN ((wf.alloc (tA (dC aA 0 aA 0 qK) 43)).setRow wf.1.size cs) M cs/\wv.1.size<=wf.1.size/\kB wv ((wf.alloc (tA (dC aA 0 aA 0 qK) 43)).setRow wf.1.size cs):=
 aCh (a.z vB) (iB.new _ _ _) k.size (oB k vB)
def NX(wv W:eA)(M:oC)(X:Nat)(cs:Array iA):Prop:=∃L H,iB W X cs 43/\AN W (fun x=>L<=x/\x<H) M cs/\wv.1.size<=L/\H<=W.1.size/\(X<L\/H<=X)/\wv.1.size<=X/\kB wv W
theorem ga(b:AN wf (fun x=>L<=x/\x<wf.1.size) M cs)(c:wv.1.size<=L)(f:iB wf X (dC aA 0 aA 0 qK) 43)(d:X<L)(a:wv.1.size<=X)(k:kB wv wf):NX wv (wf.setRow X cs) M X cs:=
 ⟨L,wf.1.size,f.row,b.turned (sI _ X _) (fun x a _ e=>by omega),c,by simp,Ca d,a,below_setRow k a _⟩
theorem aKv(a:AN wf (fun x=>L<=x/\x<wf.1.size) M cs)(b:wv.1.size<=L)(k:kB wv wf):NX wv ((wf.alloc (tA (dC aA 0 aA 0 qK) 43)).setRow wf.1.size cs) M wf.1.size cs:=
 ⟨L,wf.1.size,iB.row (iB.new _ _ _),(a.z vB).turned (sI _ wf.1.size _) (fun x c _ e=>by omega),b,by simp,La (Ia _),k.size,below_setRow (oB k vB) k.size _⟩
end
def aDa{C:eA->Prop}{w:eA}{a cs:Array iA}{T:TypeId}(k:∀W,kB w W->iB W w.1.size cs T->W.1.size=w.1.size+1->C W):C ((w.alloc (tA a T)).setRow w.1.size cs):=
 k _ (below_setRow vB (Ia _) _) (iB.row (iB.new _ _ _)) (by simp)
def aTw(c:lC)(T:TypeId):∃cs a b d e f g,oF c=rA cs/\#[a,b,d,e,f,g]=cs/\∀W X,iB W X cs T->W.cell? ⟨X,0,aA⟩=bA a/\W.cell? ⟨X,1,aA⟩=bA b/\W.cell? ⟨X,2,aA⟩=bA d/\W.cell? ⟨X,3,aA⟩=bA e/\W.cell? ⟨X,4,aA⟩=bA f/\W.cell? ⟨X,5,aA⟩=bA g:=
 ⟨_,_,_,_,_,_,_,rfl,rfl,fun _ _ h=>h.c6⟩
structure HnC(w:World)(cq cN:Array Value)(rv:gB)(N M:oC)(code:gB)(KM QM:Int):Prop where
 tc:∀W,qD 6 #[rA cq] W (rA cq)
 tn:∀W,kB w W→gA prog 7 #[rA cN] W fun e w'=>∃cs,e=sA (rA cs)∧AN w' (fun x=>W.1.size≤x∧x<w'.1.size) N cs∧kB W w'
 sp:∀W cs,FN W N cs→gA prog 5 #[rA cq,rA cs,nA rv] W fun e w'=>∃cs,e=sA (uA #[rA cs,nA code])∧FN w' M cs∧kB W w'
 im:∀W cs,FN W N cs→kB w W→gA prog 8 #[rA cq,rA cs,nA rv] W fun e w'=>∃cs,e=sA (uA #[rA cs,nA code])∧AN w' (fun x=>W.1.size≤x∧x<w'.1.size) M cs∧kB W w'
 en:∀W cs cs',FN W N cs→FN W N cs'→qD 9 #[rA cs,rA cs'] W (pA dA)
 ev:∀W cs cs',FN W M cs→FN W M cs'→qD 9 #[rA cs,rA cs'] W (pA dA)
 mn:∀W A cs,AN W A N cs→(∀x,A x→x<W.1.size)→gA prog 10 #[rA cs,lA mA 1] W fun e w'=>e=sA (lA mA KM)∧bB A W w'
 mv:∀W A cs,AN W A M cs→(∀x,A x→x<W.1.size)→gA prog 10 #[rA cs,lA mA 1] W fun e w'=>e=sA (lA mA QM)∧bB A W w'∧HN w' M cs
 hv:∀W cs,HN W M cs→qD 11 #[rA cs,lA mA 1] W (lA mA QM)
 k0:¬KM<0
 q0:¬QM<0
def aKh{w:eA}{l A:Array iA}{rv code:gB}{N M:oC}{KM QM s1:Int}{q0 q1 q2 q3 q4 q5 n0 Z n2 n3 n4 n5 n6 n7 n8 n9 n10 n11 n12 n13:iA}(fq:#[q0,q1,q2,q3,q4,q5]=l)(rq:∀W X,iB W X l 23->W.cell? ⟨X,0,aA⟩=bA q0/\W.cell? ⟨X,1,aA⟩=bA q1/\W.cell? ⟨X,2,aA⟩=bA q2/\W.cell? ⟨X,3,aA⟩=bA q3/\W.cell? ⟨X,4,aA⟩=bA q4/\W.cell? ⟨X,5,aA⟩=bA q5)
(fN:#[n0,Z,n2,n3,n4,n5,n6,n7,n8,n9,n10,n11,n12,n13]=A)(rN:∀W X,iB W X A 33->W.cell? ⟨X,0,aA⟩=bA n0/\W.cell? ⟨X,1,aA⟩=bA Z/\W.cell? ⟨X,2,aA⟩=bA n2/\W.cell? ⟨X,3,aA⟩=bA n3/\W.cell? ⟨X,4,aA⟩=bA n4/\W.cell? ⟨X,5,aA⟩=bA n5/\W.cell? ⟨X,6,aA⟩=bA n6/\W.cell? ⟨X,7,aA⟩=bA n7/\W.cell? ⟨X,8,aA⟩=bA n8/\W.cell? ⟨X,9,aA⟩=bA n9/\W.cell? ⟨X,10,aA⟩=bA n10/\W.cell? ⟨X,11,aA⟩=bA n11/\W.cell? ⟨X,12,aA⟩=bA n12/\W.cell? ⟨X,13,aA⟩=bA n13)
(HSZ:xA (∀W,kB w W->qD 4 #[rA A,lA mA 1048576] W (lA mA s1)))
(HH:xA (rv.size<=1048576->0<=s1->HnC w l A rv N M code KM QM)):
 qD 3 #[rA l,rA A,nA rv] w (pA dA):=by
 have fz:=jP;go_enter func3,ntmps3;go_upto_region 1 with fail;refine aIj (C:=fun W=>Code.wp prog _ _ _ W) ?_;intro w0 B0 A0 S0 hz;clear hz;by_cases hrv:(rv.size:Int) > 1048576
 .go_wp2;go_ret;exact⟨rfl,B0⟩
 go_wp2_with fail;apply aC (HSZ.o _ B0);intro t b;have B1:=yA (oB B0 b);have A1:=A0.z b;have S1:=S0.z b;clear A0 S0 B0 b HSZ;by_cases h0:s1<0
 .go_wp2;go_ret;exact⟨rfl,B1.o⟩
 have H:=yA (HH.o (by omega) (by omega));clear HH hrv;have j:=yA (fun g(h:kB t g)=>show iB g w.1.size l 23/\iB g (w.1.size+1) A 33 from⟨A1.z h,S1.z h⟩);go_upto_region 7 with fail;go_cut [8,9] (fun p ok wx=>∃X cs,p=qA (bA ⟨X,0,aA⟩)/\ok=nA code/\iB wx X cs 43/\FN wx M cs/\t.1.size<=X/\kB t wx)
 case first=>
  as_aux_lemma=>
   go_region_held3 (fun g=>iB g w.1.size l 23/\iB g (w.1.size+1) A 33)
    (first|with_reducible exact j.o _ m|with_reducible exact j.o _ d|with_reducible exact j.o _ c|with_reducible exact j.o _ (oB m vB)|with_reducible exact j.o _ (oB d vB)|with_reducible exact j.o _ (oB c vB)|with_reducible exact j.o _ (vB.drew)|with_reducible exact j.o _ eD.drew|exact j.o _ (below_setRow m x2 _)|exact j.o _ (below_setRow (oB m vB) m.size _))
    (first
     |((fail_if_success (have q:=c));refine bD (f:=6) (args:=#[rA l]) (by rfl) (by go_simp) ?_;apply aC (H.o.tc _);intro O b;refine⟨_,rfl,?_⟩;have c:kB t O:=(by with_reducible exact oB eD.drew b))
     |((fail_if_success (have q:=c));refine bD (f:=6) (args:=#[rA l]) (by rfl) (by go_simp) ?_;apply aC (H.o.tc _);intro O b;refine⟨_,rfl,?_⟩;have c:kB t O:=(by with_reducible exact oB (vB.drew) b);have z0:=KJ b;have x0:=Ia t.1.size)
     |((fail_if_success (have q:=d));have q:=c;clear q;refine bD (f:=7) (args:=#[rA A]) (by rfl) (by go_simp) ?_;refine(H.o.tn _ (by with_reducible exact oB B1.o (c))).mono ?_;rintro e P ⟨o,rfl,J,b⟩;refine⟨_,rfl,?_⟩;have d:kB t P:=(by with_reducible exact oB (c) b);(try (have Q:=z0.z b;have x1:=x0));have Z:=J.fn)
     |((fail_if_success (have q:=d));have q:=c;clear q;refine bD (f:=7) (args:=#[rA A]) (by rfl) (by go_simp) ?_;refine(H.o.tn _ (by with_reducible exact oB B1.o (oB c vB))).mono ?_;rintro e P ⟨o,rfl,J,b⟩;refine⟨_,rfl,?_⟩;have d:kB t P:=(by with_reducible exact oB (oB c vB) b);have Q:=jT b;have x1:=c.size;have Z:=J.fn)
     |((fail_if_success (have q:=m));have q:=d;clear q;refine bD (f:=5) (args:=#[rA l,rA o,nA rv]) (by rfl) (by go_simp) ?_;refine(H.o.sp _ _ (by with_reducible exact Z)).mono ?_;rintro e u2 ⟨Y,rfl,hF,b⟩;refine⟨_,rfl,?_⟩;have m:kB t u2:=(by with_reducible exact oB (d) b);(try (have z2:=Q.z b;have x2:=x1));have V:=hF.c14;have d2:=V.size;(try (have b2:=z2.box rfl)))
     |((fail_if_success (have q:=m));have q:=d;clear q;refine bD (f:=5) (args:=#[rA l,rA o,nA rv]) (by rfl) (by go_simp) ?_;refine(H.o.sp _ _ (by with_reducible exact Z.z vB)).mono ?_;rintro e u2 ⟨Y,rfl,hF,b⟩;refine⟨_,rfl,?_⟩;have m:kB t u2:=(by with_reducible exact oB (oB d vB) b);have z2:=jT b;have x2:=d.size;have V:=hF.c14;have d2:=V.size;(try (have b2:=z2.box rfl))))
   all_goals(go_wp2_with fail;go_meet)
   all_goals first
    |with_reducible exact⟨_,_,rfl,rfl,aQb hF m⟩
    |exact⟨_,_,rfl,rfl,aCh hF z2 x2 m⟩
 obtain⟨X0,c0,rfl,rfl,I,hF,hX0,b⟩:=hcut;rename eA=>w4;have XB0:=yA I;have S:=yA hF;have B4:=yA (oB B1.o b);have A4:=yA (A1.z b);have S4:=S1.z b;clear I hF b j A1 S1 B1 hX0;go_wp2_with fail;refine(H.o.tn _ B4.o).mono ?_;rintro e w5 ⟨cx,rfl,J,b⟩;have O5:=yA J;have c5:=J.fn.c14;have d5:=c5.size;have B45:=yA b;have h45:=b.size;replace S4:=yA (S4);clear J b;go_upto_region 9 with fail;refine aDa (C:=fun W=>Code.wp prog _ _ _ W) ?_;intro R hb6 X6 hz6;have HXS:xA (∃X,X=w5.1.size):=⟨_,rfl⟩
 obtain⟨X,hX⟩:=HXS.o;rw[<-hX]at X6 |-
 have B46:=yA (oB B45.o hb6);have B56:=yA hb6;have B6:=yA (oB B4.o B46.o);have X6:=yA X6;have h56:=hb6.size;clear hb6 hz6 hX HXS c5 d5;have A6:=A4.o.z B46.o;have FX:=yA (O5.o.fn.z B56.o);have X6':=X6.o;obtain⟨j0,j1,j2,j3,j4,j5,j6,j7,j8,j9,u,v,y,z,fX,rX⟩:=FX.o.r 43;have n:=yA (fun g(h:kB R g)=>show iB g w.1.size l 23/\iB g X cx 43 from⟨A6.z h,X6'.z h⟩);go_upto_region 9 with fail;go_cut [11,12] (fun p ok wx=>∃X cs,p=qA (bA ⟨X,0,aA⟩)/\ok=nA code/\NX R wx M X cs)
 case first=>
  as_aux_lemma=>
   go_region_held3 (fun g=>iB g w.1.size l 23/\iB g X cx 43)
    (first|with_reducible exact n.o _ d|with_reducible exact n.o _ c|with_reducible exact n.o _ (oB d vB)|with_reducible exact n.o _ (oB c vB)|with_reducible exact n.o _ (vB.drew)|with_reducible exact n.o _ eD.drew|exact n.o _ (below_setRow d x1 _)|exact n.o _ (below_setRow (oB d vB) d.size _))
    (first
     |((fail_if_success (have q:=c));refine bD (f:=6) (args:=#[rA l]) (by rfl) (by go_simp) ?_;apply aC (H.o.tc _);intro O b;refine⟨_,rfl,?_⟩;have c:kB R O:=(by with_reducible exact oB eD.drew b))
     |((fail_if_success (have q:=c));refine bD (f:=6) (args:=#[rA l]) (by rfl) (by go_simp) ?_;apply aC (H.o.tc _);intro O b;refine⟨_,rfl,?_⟩;have c:kB R O:=(by with_reducible exact oB (vB.drew) b);have z0:=KJ b;have x0:=Ia R.1.size)
     |((fail_if_success (have q:=d));have q:=c;clear q;refine bD (f:=8) (args:=#[rA l,rA cx,nA rv]) (by rfl) (by go_simp) ?_;refine(H.o.im _ _ (by with_reducible exact FX.o.z (c)) (by with_reducible exact oB B6.o (c))).mono ?_;rintro e P ⟨Y,rfl,G,b⟩;refine⟨_,rfl,?_⟩;have d:kB R P:=(by with_reducible exact oB (c) b);(try (have Q:=z0.z b;have x1:=x0));have V:=G.fn.c14;have d2:=V.size;have kz:=c.size;(try (have b2:=Q.box rfl));(try (have zl:=zA z0)))
     |((fail_if_success (have q:=d));have q:=c;clear q;refine bD (f:=8) (args:=#[rA l,rA cx,nA rv]) (by rfl) (by go_simp) ?_;refine(H.o.im _ _ (by with_reducible exact FX.o.z (oB c vB)) (by with_reducible exact oB B6.o (oB c vB))).mono ?_;rintro e P ⟨Y,rfl,G,b⟩;refine⟨_,rfl,?_⟩;have d:kB R P:=(by with_reducible exact oB (oB c vB) b);have Q:=jT b;have x1:=c.size;have V:=G.fn.c14;have d2:=V.size;have kz:=c.size;(try (have b2:=Q.box rfl));(try (have zl:=zA z0))))
   all_goals(go_wp2_with fail;go_meet)
   all_goals first
    |with_reducible exact⟨_,_,rfl,rfl,aKv G kz d⟩
    |exact⟨_,_,rfl,rfl,ga G kz Q zl x1 d⟩
    |exact⟨_,_,rfl,rfl,ga G (by simp only[eA.size_alloc];omega) Q (by simp only[eA.size_alloc];omega) x1 d⟩
 obtain⟨XG,cg,rfl,rfl,L1,H1,I,K,hL1,hH1,hXL,hX1,b⟩:=hcut;rename eA=>w8;have T:=yA I;have F:=yA K;have B78:=yA b;have B48:=yA (oB B46.o b);have X08:=XB0.o.z B48.o;clear b K n A6 X6' fX rX j0 j1 j2 j3 j4 j5 j6 j7 j8 j9 u v y z;obtain⟨j0,j1,j2,j3,j4,j5,j6,j7,j8,j9,u,v,y,z,fG,rG⟩:=F.o.fn.r 43;obtain⟨i0,i1,i2,i3,i4,i5,i6,i7,i8,i9,i10,i11,i12,i13,a,r0⟩:=S.o.r 43;go_wp2_with fail;apply aC (H.o.ev _ _ _ F.o.fn (S.o.z B48.o));intro w9 b;have D:=yA (oB B78.o b);have E:=yA (oB B48.o b);replace F:=yA (F.o.z b);replace T:=yA (T.o.z b);have h89:=b.size;have S9:=S4.o.z E.o;have X9:=X6.o.z D.o;clear b I X08 fG rG j0 j1 j2 j3 j4 j5 j6 j7 j8 j9 u v y z a r0 i0 i1 i2 i3 i4 i5 i6 i7 i8 i9 i10 i11 i12 i13;obtain⟨j0,j1,j2,j3,j4,j5,j6,j7,j8,j9,u,v,y,z,fX,rX⟩:=FX.o.r 43;have HK9:=yA (fun g(h:kB w9 g)=>show iB g X cx 43/\iB g (w.1.size+1) A 33 from⟨X9.z h,S9.z h⟩);go_upto_region 12 with fail;go_cut [58] (fun s wx=>s=pA cA/\kB w9 wx)
 case first=>
  as_aux_lemma=>
   go_region_held3 (fun g=>iB g X cx 43/\iB g (w.1.size+1) A 33)
    (first|with_reducible exact HK9.o _ d|with_reducible exact HK9.o _ c|with_reducible exact HK9.o _ eD.drew)
    (first
     |((fail_if_success (have q:=c));refine bD (f:=7) (args:=#[rA A]) (by rfl) (by go_simp) ?_;refine(H.o.tn _ ((oB B4.o E.o).drew)).mono ?_;rintro e O ⟨o,rfl,J,b⟩;refine⟨_,rfl,?_⟩;have c:kB w9 O:=(by exact oB eD.drew b))
     |(have q:=c;clear q;refine bD (f:=9) (args:=#[rA cx,rA o]) (by rfl) (by go_simp) ?_;apply aC (H.o.en _ _ _ (FX.o.z (oB D.o c)) J.fn);intro P b;refine⟨_,rfl,?_⟩;have d:kB w9 P:=(by exact oB c b)))
   all_goals(go_wp2_with fail;go_meet)
   all_goals exact⟨rfl,d⟩
 obtain⟨rfl,b⟩:=hcut;rename eA=>wa;replace D:=yA (oB D.o b);replace E:=yA (oB E.o b);replace F:=yA (F.o.z b);replace T:=yA (T.o.z b);have h9a:=b.size;clear b HK9 S9 X9;have X9:=X6.o.z D.o;have h5c:=(oB B56.o D.o).size;go_wp2_with fail;refine aC (H.o.mn _ _ _ (O5.o.z (oB B56.o D.o)) (fun x hx=>by omega)) ?_;intro we ht;have B4e:=yA (E.o.trans (ht.below E.o.size fun i hi e=>by omega));replace F:=yA (F.o.turned ht (fun x hx _ e=>by omega));have U:=ht.blk T.o (by omega);have X0e:=XB0.o.z B4e.o;have hde:=ht.size;have KR0:=H.o.k0;have QM0:=H.o.q0;clear ht X9 fX rX j0 j1 j2 j3 j4 j5 j6 j7 j8 j9 u v y z;obtain⟨j0,j1,j2,j3,j4,j5,j6,j7,j8,j9,u,v,y,z,fG,rG⟩:=F.o.fn.r 43;obtain⟨i0,i1,i2,i3,i4,i5,i6,i7,i8,i9,i10,i11,i12,i13,a,r0⟩:=S.o.r 43;go_wp2_with fail;apply aC (H.o.ev _ _ _ F.o.fn (S.o.z B4e.o));intro wf b;have B4f:=yA (oB B4e.o b);replace F:=yA (F.o.z b);replace U:=U.z b;have hef:=b.size;clear b X0e;go_wp2_with fail;refine aC (H.o.mv _ _ _ F.o (fun x hx=>by omega)) ?_;rintro wg ⟨ht,hh⟩;have B4g:=yA (B4f.o.trans (ht.below B4f.o.size fun i hi e=>by omega));replace U:=ht.blk U (by omega);replace hh:=yA hh;clear ht B4f B4e;go_wp2_with fail;apply aC (H.o.hv _ _ hh.o);intro B b;have B4h:=yA (oB B4g.o b);have Bh:=yA (oB B4.o B4h.o);have Ah:=A4.o.z B4h.o;have Sh:=S4.o.z B4h.o;clear b hh U B4g;have k:=yA (fun g(h:kB B g)=>show iB g w.1.size l 23/\iB g (w.1.size+1) A 33 from⟨Ah.z h,Sh.z h⟩);clear hXL hL1 hH1 hX1 h56 h5c h9a h89 hde hef h45 fG rG j0 j1 j2 j3 j4 j5 j6 j7 j8 j9 u v y z;go_upto_region 26 with fail;go_cut [16,17] (fun p ok wx=>∃X cs,p=qA (bA ⟨X,0,aA⟩)/\ok=nA code/\NX B wx M X cs)
 case first=>
  as_aux_lemma=>
   go_region_held3 (fun g=>iB g w.1.size l 23/\iB g (w.1.size+1) A 33)
    (first|with_reducible exact k.o _ m|with_reducible exact k.o _ d|with_reducible exact k.o _ c|with_reducible exact k.o _ (oB m vB)|with_reducible exact k.o _ (oB d vB)|with_reducible exact k.o _ (oB c vB)|with_reducible exact k.o _ (vB.drew)|with_reducible exact k.o _ eD.drew|exact k.o _ (below_setRow m x2 _)|exact k.o _ (below_setRow (oB m vB) m.size _))
    (first
     |((fail_if_success (have q:=c));refine bD (f:=6) (args:=#[rA l]) (by rfl) (by go_simp) ?_;apply aC (H.o.tc _);intro O b;refine⟨_,rfl,?_⟩;have c:kB B O:=(by with_reducible exact oB eD.drew b))
     |((fail_if_success (have q:=c));refine bD (f:=6) (args:=#[rA l]) (by rfl) (by go_simp) ?_;apply aC (H.o.tc _);intro O b;refine⟨_,rfl,?_⟩;have c:kB B O:=(by with_reducible exact oB (vB.drew) b);have z0:=KJ b;have x0:=Ia B.1.size)
     |((fail_if_success (have q:=d));have q:=c;clear q;refine bD (f:=7) (args:=#[rA A]) (by rfl) (by go_simp) ?_;refine(H.o.tn _ (by with_reducible exact oB Bh.o (c))).mono ?_;rintro e P ⟨o,rfl,J,b⟩;refine⟨_,rfl,?_⟩;have d:kB B P:=(by with_reducible exact oB (c) b);(try (have Q:=z0.z b;have x1:=x0));have Z:=J.fn)
     |((fail_if_success (have q:=d));have q:=c;clear q;refine bD (f:=7) (args:=#[rA A]) (by rfl) (by go_simp) ?_;refine(H.o.tn _ (by with_reducible exact oB Bh.o (oB c vB))).mono ?_;rintro e P ⟨o,rfl,J,b⟩;refine⟨_,rfl,?_⟩;have d:kB B P:=(by with_reducible exact oB (oB c vB) b);have Q:=jT b;have x1:=c.size;have Z:=J.fn)
     |((fail_if_success (have q:=m));have q:=d;clear q;refine bD (f:=8) (args:=#[rA l,rA o,nA rv]) (by rfl) (by go_simp) ?_;refine(H.o.im _ _ (by with_reducible exact Z) (by with_reducible exact oB Bh.o (d))).mono ?_;rintro e u2 ⟨Y,rfl,G,b⟩;refine⟨_,rfl,?_⟩;have m:kB B u2:=(by with_reducible exact oB (d) b);(try (have z2:=Q.z b;have x2:=x1));have V:=G.fn.c14;have d2:=V.size;have kz:=d.size;(try (have b2:=z2.box rfl));(try (have zl:=zA Q)))
     |((fail_if_success (have q:=m));have q:=d;clear q;refine bD (f:=8) (args:=#[rA l,rA o,nA rv]) (by rfl) (by go_simp) ?_;refine(H.o.im _ _ (by with_reducible exact Z.z vB) (by with_reducible exact oB Bh.o (oB d vB))).mono ?_;rintro e u2 ⟨Y,rfl,G,b⟩;refine⟨_,rfl,?_⟩;have m:kB B u2:=(by with_reducible exact oB (oB d vB) b);have z2:=jT b;have x2:=d.size;have V:=G.fn.c14;have d2:=V.size;have kz:=d.size;(try (have b2:=z2.box rfl));(try (have zl:=zA Q))))
   all_goals(go_wp2_with fail;go_meet)
   all_goals first
    |with_reducible exact⟨_,_,rfl,rfl,aKv G kz m⟩
    |exact⟨_,_,rfl,rfl,ga G kz z2 zl x2 m⟩
    |exact⟨_,_,rfl,rfl,ga G (by simp only[eA.size_alloc];omega) z2 (by simp only[eA.size_alloc];omega) x2 m⟩
 obtain⟨XH,ch,rfl,rfl,L2,H2,I,K,-,-,-,-,b⟩:=hcut;rename eA=>wi;have B4i:=yA (oB B4h.o b);have X0i:=XB0.o.z B4i.o;clear b Ah Sh k;obtain⟨j0,j1,j2,j3,j4,j5,j6,j7,j8,j9,u,v,y,z,fG,rG⟩:=K.fn.r 43;go_wp2_with fail;apply aC (H.o.ev _ _ _ K.fn (S.o.z B4i.o));intro wj b;have BZ:=yA (oB (oB B4.o B4i.o) b);clear b K;go_wp2;go_ret;exact⟨rfl,BZ.o⟩
end
def mI(c:lC)(now:Int)(b:List aB)(d:gB)(x:cF):Nat×List aB×gB:=
 if (uB x.B).2.1≠0 then((uB x.B).2.1,b,kA)
 else if AQ x.bits=dA then(6,b,kA)
 else if (wH c now b d (yI (uB x.B).1)).2.2=1\/(wH c now b d (yI (uB x.B).1)).2.2=2 then((wH c now b d (yI (uB x.B).1)).2.2,(wH c now b d (yI (uB x.B).1)).2.1,yI (uB x.B).1)
 else((wH c now b d (yI (uB x.B).1)).2.2,b,kA)
def XR{b:List eC}:∀l∈(uB b).1,l∈b:=by grind [uB,cM,bM]
theorem BM{ls:List eC}:vA (uB ls).1<=vA ls:=by grind [uB,EU,BS]
theorem fj {x y : List eC} (h : x.Perm y) : nD x = nD y := by
  induction h with
  | nil => rfl
  | cons _ _ ih => simp [nD, ih]
  | swap => simp [nD]; omega
  | trans _ _ h1 h2 => exact h1.trans h2
theorem xt(b:List eC):nD (cM b)<=nD b:=by induction b<;>grind [nD,cM]
def EC(b:List eC):nD (uB b).1<=nD b:=by grind [nD,uB,fj,bM,xt]
def YZ(b:List eC):(yI b).size<=1+3*vA b+nD b:=by
 unfold yI;split;rw[bI,Ka,qB,kK];omega;exact Oa _
structure JP(w W:World)(c:lC)(now:Int)(a:iC)(n cap:Nat)(la:iC)(k lc:Nat)(bi:Int):Prop where
 C:iB W w.1.size #[lA mA c.w,lA mA c.tl,lA mA c.ml,lA mA c.sh,lA mA c.ha,lA mA c.sg] 46
 S:iB W (w.1.size+1) #[lA mA now,oA a n cap] 41
 X:iB W (w.1.size+1+1) #[oA la k lc,lA mA bi] 67
 R:iB W (w.1.size+1+1+1) #[lA mA 0,oA aA 0 0] 41
 B:kB w W
section
variable {w W W':eA} {c:lC} {now:Int} {a la:iC} {n cap k lc:Nat} {bi:Int}
theorem JP.new:JP w ((((w.alloc (tA #[lA mA c.w,lA mA c.tl,lA mA c.ml,lA mA c.sh,lA mA c.ha,lA mA c.sg] 46)).alloc (tA #[lA mA now,oA a n cap] 41)).alloc (tA #[oA la k lc,lA mA bi] 67)).alloc (tA #[lA mA 0,oA aA 0 0] 41)) c now a n cap la k lc bi:=by
 have b:=((iB.new (w.alloc (tA #[lA mA c.w,lA mA c.tl,lA mA c.ml,lA mA c.sh,lA mA c.ha,lA mA c.sg] 46)) #[lA mA now,oA a n cap] 41).alloc (tA #[oA la k lc,lA mA bi] 67)).alloc (tA #[lA mA 0,oA aA 0 0] 41);have d:=(iB.new ((w.alloc (tA #[lA mA c.w,lA mA c.tl,lA mA c.ml,lA mA c.sh,lA mA c.ha,lA mA c.sg] 46)).alloc (tA #[lA mA now,oA a n cap] 41)) #[oA la k lc,lA mA bi] 67).alloc (tA #[lA mA 0,oA aA 0 0] 41);have e:=iB.new (((w.alloc (tA #[lA mA c.w,lA mA c.tl,lA mA c.ml,lA mA c.sh,lA mA c.ha,lA mA c.sg] 46)).alloc (tA #[lA mA now,oA a n cap] 41)).alloc (tA #[oA la k lc,lA mA bi] 67)) #[lA mA 0,oA aA 0 0] 41;simp only[eA.size_alloc]at b d e;exact⟨(((iB.new _ _ _).alloc _).alloc _).alloc _,b,d,e,oB (oB (oB vB vB) vB) vB⟩
theorem JP.z(h:JP w W c now a n cap la k lc bi)(b:kB W W'):JP w W' c now a n cap la k lc bi:=⟨h.C.z b,h.S.z b,h.X.z b,h.R.z b,oB h.B b⟩
theorem JP.cells(h:JP w W c now a n cap la k lc bi):W.cell? ⟨w.1.size,0,aA⟩=bA (lA mA c.w)/\W.cell? ⟨w.1.size,1,aA⟩=bA (lA mA c.tl)/\W.cell? ⟨w.1.size,2,aA⟩=bA (lA mA c.ml)/\W.cell? ⟨w.1.size,3,aA⟩=bA (lA mA c.sh)/\W.cell? ⟨w.1.size,4,aA⟩=bA (lA mA c.ha)/\W.cell? ⟨w.1.size,5,aA⟩=bA (lA mA c.sg)/\W.cell? ⟨w.1.size+1,0,aA⟩=bA (lA mA now)/\W.cell? ⟨w.1.size+1,1,aA⟩=bA (oA a n cap)/\W.cell? ⟨w.1.size+1+1,0,aA⟩=bA (oA la k lc)/\W.cell? ⟨w.1.size+1+1,1,aA⟩=bA (lA mA bi)/\W.cell? ⟨w.1.size+1+1+1,0,aA⟩=bA (lA mA 0)/\W.cell? ⟨w.1.size+1+1+1,1,aA⟩=bA (oA aA 0 0)/\W.frozen? ⟨w.1.size+1+1+1,0,aA⟩=cA/\W.frozen? ⟨w.1.size+1+1+1,1,aA⟩=cA/\w.1.size+1+1+1<W.1.size/\w.1.size+1<W.1.size/\¬w.1.size+1=W.1.size/\¬w.1.size+1+1+1=W.1.size:=
 have:=zA h.R
 ⟨h.C.cell 0,h.C.cell 1,h.C.cell 2,h.C.cell 3,h.C.cell 4,h.C.cell 5,h.S.cell 0,h.S.cell 1,h.X.cell 0,h.X.cell 1,h.R.cell 0,h.R.cell 1,h.R.free 0,h.R.free 1,this,by omega,by omega,by omega⟩
end
def WX(c:lC)(now:Int)(a:iC)(cap:Nat)(f:List aB)(l:gB)(x:cF)(la:iC)(lc:Nat)(w:eA){A:Nat->Prop}(hf:bL w A a f)(hl:yD w la x.B)(hlc:vA x.B<=lc)(u:vA f+nB f<=1900000)(hn:l.size<=1000000)(hx:eH x<=300000)(h0:kC c now f=dA):
 gA prog 20 #[oF c,rA #[lA mA now,oA a (vA f) cap],nA l,rA #[oA la (vA x.B) lc,lA mA x.bits]] w fun e w'=>∃b cb,e=sA (uA #[lA mA ((mI c now f l x).1:Nat),rA #[lA mA now,.slice b (vA (mI c now f l x).2.1) cb],nA (mI c now f l x).2.2])/\bL w' (fun g=>A g\/w.1.size<=g) b (mI c now f l x).2.1/\kB w w':=by
 have hbx:eH x=vA x.B+nD x.B:=rfl;have hB:QA x.B:=fun i s=>by have:=TN x.B i s;exact⟨by omega,by omega⟩
 have t:QA (uB x.B).1:=fun i s=>by
  obtain⟨j,hj,e⟩:=Ib (XR _ (Gb s));rw[<-e];exact hB j hj
 have hkl:=BM (ls:=x.B);have HC:=yA (fun W(o:kB w W)=>DR la lc x.B W (hl.z o) hB (by omega) hlc);have HN:=yA (fun W=>aOv x.bits W);have HK:=yA (fun W H J(h:yD W H (uB x.B).1)(hk:vA (uB x.B).1<=J)=>OD H J (uB x.B).1 W h t (by omega) hk);have G:=yA (fun W(o:kB w W)(I:(yI (uB x.B).1).size<=1900000)=>DQ c now a cap f l (yI (uB x.B).1) W (hf.tens.z o) u (by omega) I h0);have HF:=yA (fun W(o:kB w W)=>hf.lt.z o);have I:(yI (uB x.B).1).size<=1900000:=by have:=YZ (uB x.B).1;have:=EC x.B;omega
 replace G:=yA (fun W o=>G.o W o I);have HV:xA ((uB x.B).2.1≠0/\mI c now f l x=((uB x.B).2.1,f,kA)\/(uB x.B).2.1=0/\(AQ x.bits=dA/\mI c now f l x=(6,f,kA)\/AQ x.bits=cA/\((((wH c now f l (yI (uB x.B).1)).2.2:Nat):Int)=1/\mI c now f l x=(1,(wH c now f l (yI (uB x.B).1)).2.1,yI (uB x.B).1)\/((wH c now f l (yI (uB x.B).1)).2.2:Int)=2/\mI c now f l x=(2,(wH c now f l (yI (uB x.B).1)).2.1,yI (uB x.B).1)\/(((wH c now f l (yI (uB x.B).1)).2.2:Int)==1)=cA/\(((wH c now f l (yI (uB x.B).1)).2.2:Int)==2)=cA/\mI c now f l x=((wH c now f l (yI (uB x.B).1)).2.2,f,kA)))):=by
  show _\/_;unfold mI;by_cases z:(uB x.B).2.1=0
  .refine La ⟨z,?_⟩;rw[Ja (by simp[z])];cases AQ x.bits
   .refine La ⟨rfl,?_⟩;rw[Ja (by simp)];generalize wH c now f l (yI (uB x.B).1)=A;by_cases C:A.2.2=1
    .exact Ca ⟨by omega,by simp[C]⟩
    by_cases q2:A.2.2=2
    .exact La (Ca ⟨by omega,by simp[q2]⟩)
    exact La (La ⟨by simp;omega,by simp;omega,by simp[C,q2]⟩)
   exact Ca ⟨rfl,Ma rfl⟩
  exact Ca ⟨z,Ma z⟩
 have HNW:xA ((wH c now f l (yI (uB x.B).1)).1=now):=by
  show _=_;unfold wH;rw[Ja (by rw[h0];simp)];repeat' split
  all_goals rfl
 have P:=yA (JP.new (w:=w) (c:=c) (now:=now) (a:=a) (n:=vA f) (cap:=cap) (la:=la) (k:=vA x.B) (lc:=lc) (bi:=x.bits));clear hf hl hB t hbx u hx h0 I;unfold XJ at G;generalize mI c now f l x=V at *;generalize wH c now f l (yI (uB x.B).1)=A at *;obtain⟨n9,d,v9⟩:=A;obtain rfl:=HNW.o;generalize yI (uB x.B).1=ky at *;generalize AQ x.bits=nb at *;generalize x.bits=bi at *;generalize uB x.B=CN at *;generalize x.B=ls at *;obtain⟨fm,cd,ix⟩:=CN;dsimp only at *;unfold oF at *;go_enter func20,ntmps20;go_wp2_with fail;refine(HC.o _ P.o.B).mono ?_;rintro e w1 ⟨a1,k1,rfl,hk1,y,m⟩;replace P:=yA (P.o.z m);have L1:=yA y.B;clear m y HC;obtain⟨K,L,M,N,O,Q,S,T,U,X,D,E,Y,Z,F,y5,y6,y7⟩:=P.o.cells;rcases HV.o with⟨z,rfl⟩|⟨rfl,⟨rfl,rfl⟩|⟨rfl,⟨C,rfl⟩|⟨C,rfl⟩|⟨C,q2,rfl⟩⟩⟩
 all_goals
  go_wp2_with(first
   |(go_at_call 56;apply lK (HN.o _))
   |(go_at_call 57;apply aC (HK.o _ a1 k1 L1.o hk1);intro w2 m;replace P:=yA (P.o.z m);clear m K L M N O Q S T U X D E Y Z F y5 y6 y7;obtain⟨K,L,M,N,O,Q,S,T,U,X,D,E,Y,Z,F,y5,y6,y7⟩:=P.o.cells)
   |(go_at_call 58;refine(G.o _ P.o.B).mono ?_;rintro e w3 ⟨H,J,rfl,y,m⟩;have O3:=yA (y.toN (A:=fun g=>w.1.size+1+1+1<g) fun g h=>Bb (zA P.o.R) h);replace P:=yA (P.o.z m);clear m y K L M N O Q S T U X D E Y Z F y5 y6 y7;obtain⟨K,L,M,N,O,Q,S,T,U,X,D,E,Y,Z,F,y5,y6,y7⟩:=P.o.cells))
 all_goals have r:=yA (fun(W:eA)(p q:iA)=>(((bB.refl (·=w.1.size+1+1+1) W).setCell (Ca rfl) 0 p).setCell (Ca rfl) 1 q))
 all_goals
  go_region
  go_wp2;refine bodyPost_ret (v:=?_) (by simp[results,results20,go_sem,D,E,F];rfl) rfl ?_;first
   |exact⟨a,⟨cap,rfl⟩,((HF.o _ P.o.B).turn (r.o _ _ _) (fun g(h:A g/\g<w.1.size)(e:g=w.1.size+1+1+1)=>by omega)).mono (fun g h=>Ca h.1),(P.o.B.trans ((r.o _ _ _).below P.o.B.size fun i s e=>by omega)).drew⟩
   |exact⟨H,⟨J,rfl⟩,((O3.o.turn (r.o _ _ _) (fun g(h:w.1.size+1+1+1<g)(e:g=w.1.size+1+1+1)=>by omega)).mono (fun g(h:w.1.size+1+1+1<g)=>La (by omega))).z (vB.drew),(oB (P.o.B.trans ((r.o _ _ _).below P.o.B.size fun i s e=>by omega)) vB).drew⟩
   |exact⟨a,⟨cap,rfl⟩,(((HF.o _ P.o.B).turn (r.o _ _ _) (fun g(h:A g/\g<w.1.size)(e:g=w.1.size+1+1+1)=>by omega)).mono (fun g h=>Ca h.1)).z (vB.drew),(oB (P.o.B.trans ((r.o _ _ _).below P.o.B.size fun i s e=>by omega)) vB).drew⟩
def nsn(h:gB)(r:vE):List vE:=if h.toList.isEmpty=dA then [] else [r]
def wrS(c:lC)(a:Int)(b:gB)(S:List aB×gB×List vE)(x:cF):List aB×gB×List vE:=
 ((mI c a S.1 b x).2.1,S.2.1++pB 1 ((mI c a S.1 b x).1:Nat),S.2.2++nsn (mI c a S.1 b x).2.2 ⟨1,b,(mI c a S.1 b x).2.2,0⟩)
def vM(c:lC)(a:Int)(b:gB)(d:List aB)(e:List cF):List aB×gB×List vE:=e.foldl (wrS c a b) (d,kA,[])
def VU{c:lC}{now:Int}{te:gB}{ts:List aB}(a:List cF)(k:Nat)(h:k<vA a):vM c now te ts (a.take (k+1))=wrS c now te (vM c now te ts (a.take k)) a[k]:=by
 rw[vM,Pa h,Dg];rfl
def aOp(l:eC):iR l<=255:=by
 unfold iR zP WB;repeat' split
 all_goals simp
def vh(d:List eC):(uB d).2.1<=255:=by
 have a:∀(l:List eC)(i c j:Nat),cD l i=bA (c,j)->c<=255:=by
  intro l;induction l with
  |nil=>intro i c j h;cases h
  |cons x r b=>
   intro i c j h;rw[cD]at h;split at h;exact b _ _ _ h
   cases h
   exact aOp x
 unfold uB;split;simp;split
 .rename_i h;exact a _ _ _ _ h
 split;simp;split<;>simp
def xq{c:lC}{a:Int}{b:List aB}(h:kC c a b=dA)(d:gB)(x:cF):kC c a (mI c a b d x).2.1=dA/\vA (mI c a b d x).2.1+nB (mI c a b d x).2.1<=vA b+nB b+2+d.size+(nT x).size/\(mI c a b d x).2.2.size<=(nT x).size/\(mI c a b d x).1<=255:=by
 have j:(yI (uB x.B).1).size<=(nT x).size:=by have:=YZ (uB x.B).1;have:=EC x.B;have:=BM (ls:=x.B);have:=jQ x;omega
 have k:ByteArray.empty.size=0:=rfl;have i:(uB x.B).2.1<=255:=vh _;have g:(wH c a b d (yI (uB x.B).1)).2.2<=5:=by unfold wH;(repeat' split)<;>simp
 unfold mI;split;exact ⟨h,by dsimp only;omega,by dsimp only;omega,i⟩;split;exact ⟨h,by dsimp only;omega,by dsimp only;omega,by simp⟩;split
 .rename_i f;have e:=tY h ⟨1,d,yI (uB x.B).1,0⟩;rw[bq h]at f g |-
  exact⟨aAw h f,by dsimp only[zE,Td]at e |-;rw[Ma rfl]at e;dsimp only at e;omega,j,by omega⟩
 exact ⟨h,by dsimp only;omega,by dsimp only;omega,by omega⟩
def aTh{c:lC}{a:Int}{f:List aB}(h:kC c a f=dA)(b:gB)(d:List cF)(k:Nat)(n:k<=vA d):kC c a (vM c a b f (d.take k)).1=dA/\vA (vM c a b f (d.take k)).1+nB (vM c a b f (d.take k)).1<=vA f+nB f+(sE (d.take k)).size+k*(b.size+2)/\(vM c a b f (d.take k)).2.1.size=k/\vA (vM c a b f (d.take k)).2.2<=k/\sD (vM c a b f (d.take k)).2.2<=(sE (d.take k)).size+k*b.size/\∀r∈(vM c a b f (d.take k)).2.2,r.K=1/\r.U=0:=by
 induction k with
 |zero=>exact⟨h,by simp[vM,sE],rfl,Ia _,by simp[vM,sD],fun r e=>by cases e⟩
 |succ k i=>
  have g:k<vA d:=n;obtain⟨j,q,l,s,t,m⟩:=i (by omega);clear i;rw[VU d k g,tX d k g,Ka];generalize vM c a b f (d.take k)=S at *;obtain⟨p,u,v,_⟩:=xq j b d[k];unfold wrS;generalize mI c a S.1 b d[k]=J at *;have o:vA (nsn J.2.2 ⟨1,b,J.2.2,0⟩)<=1/\sD (nsn J.2.2 ⟨1,b,J.2.2,0⟩)<=b.size+J.2.2.size/\∀r∈nsn J.2.2 ⟨1,b,J.2.2,0⟩,r.K=1/\r.U=0:=by
   unfold nsn;split;exact ⟨by simp,by simp[sD],fun r e=>by cases e⟩;exact ⟨by simp,by simp[sD],fun r e=>by rw[Uf.1 e];exact⟨rfl,rfl⟩⟩
  generalize nsn J.2.2 ⟨1,b,J.2.2,0⟩=Z at *;dsimp only;rw[Nat.succ_mul,Nat.succ_mul];refine⟨p,by omega,by rw[Ka,qB,l],by rw[Kb];omega,by rw[eU];omega,fun r e=>?_⟩;rcases Ee.1 e with e|e;exact m r e;exact o.2.2 r e
def dK(c:lC)(N:oC)(r:xG):oC×gB:=
 if N.deg=dA/\r.K<=4 then(N,pB 1 3)
 else if (r.K≠2/\r.K≠4)/\tC r.T=cA then(N,pB 1 2)
 else if r.K=1 then
  if (vM c N.now r.T N.ts r.P).2.2=[] then(N,pB 1 0++pB 2 (vA r.P:Nat)++(vM c N.now r.T N.ts r.P).2.1)
  else((pF c N (vM c N.now r.T N.ts r.P).2.2).1,uN (pF c N (vM c N.now r.T N.ts r.P).2.2).1 (pF c N (vM c N.now r.T N.ts r.P).2.2).2 (pB 1 0++pB 2 (vA r.P:Nat)++(vM c N.now r.T N.ts r.P).2.1))
 else if r.K=2 then
  if (DU c N.now N.ts r.U).2.2=cA then(N,pB 1 2)
  else((pF c N [⟨2,kA,kA,r.U⟩]).1,uN (pF c N [⟨2,kA,kA,r.U⟩]).1 (pF c N [⟨2,kA,kA,r.U⟩]).2 (pB 1 0))
 else if r.K=3 then
  if (pS c N.now N.ts r.T r.R r.U).2.2=cA then(N,pB 1 2)
  else((pF c N [⟨3,r.T,r.R,r.U⟩]).1,uN (pF c N [⟨3,r.T,r.R,r.U⟩]).1 (pF c N [⟨3,r.T,r.R,r.U⟩]).2 (pB 1 0))
 else if r.K=4 then((GN c N).1,uN (GN c N).1 (GN c N).2 (pB 1 0))
 else if r.K=5 then
  if (fH c N.now N.ts r.T r.R).1<0 then(N,pB 1 2)
  else(N,pB 1 0++pB 8 (fH c N.now N.ts r.T r.R).1++pB 8 (fH c N.now N.ts r.T r.R).2)
 else(N,pB 1 0++pB 8 N.now++pB 4 (vA (bC N.ts r.T).Z:Nat)++qG (bC N.ts r.T).Z)
def rJ(c:lC)(N:oC)(s:gB):oC×gB:=
 if N.up=cA\/kC c N.now N.ts=cA then(N,pB 1 4)
 else if (aG s).2=cA then(N,pB 1 1)
 else dK c N (aG s).1
def qX{s:gB}(h:(aG s).2=dA):nS (aG s).1/\(dW (aG s).1).size<=60000/\GA (aG s).1.U:=by
 unfold aG at h |-
 split at h
 .rename_i a;rw[Ma a];dsimp only;refine⟨?_,?_,?_⟩
  .by_cases b:nS (af s)
   .exact b
   have e:=a.2.2;rw[PN b]at e;have:=a.1.1;rw[<-e]at this;exact absurd this (by decide)
  .by_cases b:(dW (af s)).size<=60000
   .exact b
   have e:=a.2.2;rw[JF (by omega)]at e;have:=a.1.1;rw[<-e]at this;exact absurd this (by decide)
  show GA (bS s).1;rw[bS];split;exact CM _;exact ⟨by simp only;omega,by simp only;omega⟩
 cases h
section
open Go.Maps
def WH(c:lC)(o:Int)(a:iC)(s:Nat)(p:List aB)(ar:iC)(capr:Nat)(q:List vE)(w:eA)(hf:nC w a p)(hr:wI w ar q)(hlr:vA q<=2000000)(hbk:vA p+nB p+vA q+sD q<=1400000)(hU:vH w):
 gA prog 213 #[oF c,rA #[lA mA o,oA a (vA p) s],oA ar (vA q) capr] w fun e Y=>tU (eG c o p q) w e Y:=by
 have hbt:vA p+nB p<=1900000:=by omega
 obtain⟨b,f,j,n⟩:=fP hbt;have hfs:=wX hbt;have HO:xA _:=fun W J=>qp c o a s p 1900000 W (hf.z J) b (by omega) (hU.z J);have b0:xA _:=fun W J=>DB o a s p W (hf.z J) (by omega) (fun t ht=>by have:=hfs t ht;omega);have d0:xA (∀l m K W,vA q<=500->kC c o p=dA->kB w K->kB K W->nE W (K.1.size<=·) l m c o p 1900000->gA prog 244 #[qA (bA ⟨l,0,aA⟩),oA ar (vA q) capr] W fun e Y=>e=sA (pA (sH c o p q).2.2)/\((sH c o p q).2.2=dA->nE Y (K.1.size<=·) l m c (sH c o p q).1 (sH c o p q).2.1 (1900000+vA q))/\kB K Y):=fun l m K W I T hW0 J h=>(bt l m ar capr q c o p 1900000 (K.1.size<=·) K W h J (fun g hg=>Ua J.size hg) (fun g hg=>hg) (fun W' ht=>hr.z (oB hW0 (J.trans (ht.below J.size fun k hk e=>by omega)))) (hU.z hW0) T I (by omega) (fun r hm=>by
  have h1:r.T.size+r.X.size<=sD q:=by
   obtain⟨i,hi,rfl⟩:=Ib hm;have h2:=eV q i hi;have h3:=dZ q (i+1);omega
  omega) (by omega) (by omega)).mono fun e Y ⟨h1,h2,h3⟩=>⟨h1,h2,J.trans (h3.below J.size fun k hk e=>by omega)⟩
 have e0:xA (∀l m B W M,vA q<=500->kC c o p=dA->nE W B l m c (sH c o p q).1 (sH c o p q).2.1 M->gA prog 245 #[qA (bA ⟨l,0,aA⟩)] W fun e Y=>∃a s,e=sA (rA #[lA mA (sH c o p q).1,.slice a (vA (sH c o p q).2.1) s])/\vC Y W.1.size a (sH c o p q).2.1/\kB W Y):=fun l m B W M I T h=>by
  have L:=LN (rs:=q) T;exact aFx l m c _ B _ M W h (aOd fun x hx=>by
   obtain⟨k1,k2,k3,k4,k5⟩:=wX (ts:=(sH c o p q).2.1) (by omega) x hx;exact⟨k1,k2,k3,by omega,by omega⟩) (by omega)
 have HV0:xA (kC c o p=cA->eG c o p q=(0,[],cA)):=fun h=>by unfold eG;rw[Ma h]
 have N:xA (kC c o p=dA->500<vA q->eG c o p q=(o,p,cA)):=fun h I=>by unfold eG;rw[Ja (by rw[h];decide),Ma I]
 have O:xA (kC c o p=dA->vA q<=500->(sH c o p q).2.2=cA->eG c o p q=(o,p,cA)):=fun h I h6=>by unfold eG;rw[Ja (by rw[h];decide),Ja (by omega),Ja (by rw[h6];decide)]
 have P:xA (kC c o p=dA->vA q<=500->(sH c o p q).2.2=dA->eG c o p q=sH c o p q):=fun h I h6=>by unfold eG;rw[Ja (by rw[h];decide),Ja (by omega),Ma h6]
 clear hf b f j n hfs hU hr;unfold bm at HO;unfold tU;generalize eG c o p q=V at *;generalize sH c o p q=R at *;unfold oF at *;go_enter func213,ntmps213;have B1:xA (kB w (((w.alloc (tA #[lA mA c.w,lA mA c.tl,lA mA c.ml,lA mA c.sh,lA mA c.ha,lA mA c.sg] 46)).alloc (tA #[lA mA o,oA a (vA p) s] 41)).alloc (tA #[lA mA 0,oA aA 0 0] 41))):=oB (oB vB vB) vB;have R1:xA _:=yA (by have:=iB.new ((w.alloc (tA #[lA mA c.w,lA mA c.tl,lA mA c.ml,lA mA c.sh,lA mA c.ha,lA mA c.sg] 46)).alloc (tA #[lA mA o,oA a (vA p) s] 41)) #[lA mA 0,oA aA 0 0] 41;simpa using this);have S1:xA _:=yA (by have:=(iB.new (w.alloc (tA #[lA mA c.w,lA mA c.tl,lA mA c.ml,lA mA c.sh,lA mA c.ha,lA mA c.sg] 46)) #[lA mA o,oA a (vA p) s] 41).alloc (tA #[lA mA 0,oA aA 0 0] 41);simpa using this);go_wp2_with fail;refine(HO.o _ B1.o).mono ?_;intro e Z hx;have HX:=yA hx;clear hx;rcases HX.o with⟨T,rfl,L⟩|⟨T,l,m,rfl,hlo,U,L⟩
 .have HB:xA _:=oB B1.o L;have RB:xA (iB Z (w.1.size+1+1) #[lA mA 0,oA aA 0 0] 41):=R1.o.z L;have HV:xA _:=HV0.o T;have y0:cC Z (w.1.size+1+1) 0 (lA mA 0):=RB.o.cell 0;have y1:cC Z (w.1.size+1+1) 1 (oA aA 0 0):=RB.o.cell 1;have d:=RB.o.free 0;have b:=RB.o.free 1;clear HX L T;go_wp2;refine bodyPost_ret (v:=uA #[rA #[lA mA 0,oA aA 0 0],pA cA]) (by simp[results,results213,go_sem,y0,y1]) rfl ?_;rw[HV.o];refine⟨aA,0,rfl,Ca rfl,?_⟩;first
   |exact(HB.o.setCell (by show w.1.size<=w.1.size+1+1;omega) _).setCell (by show w.1.size<=w.1.size+1+1;omega) _
   |exact HB.o
 have HB:xA _:=oB B1.o L;have RB:xA (iB Z (w.1.size+1+1) #[lA mA 0,oA aA 0 0] 41):=R1.o.z L;have SB:xA (iB Z (w.1.size+1) #[lA mA o,oA a (vA p) s] 41):=S1.o.z L;have H:=yA T;have HL:=yA U;have a0:=yA L;have hs0:=zA R1.o;generalize (((w.alloc (tA #[lA mA c.w,lA mA c.tl,lA mA c.ml,lA mA c.sh,lA mA c.ha,lA mA c.sg] 46)).alloc (tA #[lA mA o,oA a (vA p) s] 41)).alloc (tA #[lA mA 0,oA aA 0 0] 41))=w0 at *;clear HX L T U HO HV0 R1 S1;by_cases I:vA q<=500
 .have h5':¬(500<vA q):=by omega
  go_wp2_with fail;apply aC (d0.o l m _ _ I H.o B1.o a0.o HL.o);rintro w2 ⟨hl2,Q⟩;have c0:=yA hl2;have R2:xA (iB w2 (w.1.size+1+1) #[lA mA 0,oA aA 0 0] 41):=yA ((Q.block _ hs0).trans (((a0.o.block _ hs0).symm).trans RB.o));have S2:xA (iB w2 (w.1.size+1) #[lA mA o,oA a (vA p) s] 41):=yA ((Q.block _ (by omega)).trans (((a0.o.block _ (by omega)).symm).trans SB.o));have B2:xA _:=oB B1.o Q;clear hl2 Q d0;rcases hbv:R.2.2 with _|_
  .have HV:xA _:=O.o H.o I hbv;clear c0 e0 N O P;have s0:cC w2 (w.1.size+1) 0 (lA mA o):=S2.o.cell 0;have s1:cC w2 (w.1.size+1) 1 (oA a (vA p) s):=S2.o.cell 1;go_wp2_with fail;refine(b0.o _ B2.o).mono ?_;rintro e u ⟨z,E,rfl,D,y⟩;have G:xA (vC u w2.1.size z p):=D;have F:xA (iB u (w.1.size+1+1) #[lA mA 0,oA aA 0 0] 41):=R2.o.z y;have B3:xA _:=oB B2.o y;clear D y s0 s1;have y0:cC u (w.1.size+1+1) 0 (lA mA 0):=F.o.cell 0;have y1:cC u (w.1.size+1+1) 1 (oA aA 0 0):=F.o.cell 1;have d:=F.o.free 0;have b:=F.o.free 1;have hw2:=zA R2.o;go_wp2;have A:bB (·=w.1.size+1+1) u ((u.setCell ⟨w.1.size+1+1,0,aA⟩ (lA mA o)).setCell ⟨w.1.size+1+1,1,aA⟩ (oA z (vA p) E)):=((bB.refl (·=w.1.size+1+1) u).setCell (Ca rfl) 0 _).setCell (Ca rfl) 1 _;refine bodyPost_ret (v:=uA #[rA #[lA mA o,oA z (vA p) E],pA cA]) (by simp[results,results213,go_sem,y0,y1]) rfl ?_;rw[HV.o];have X:vC ((u.setCell ⟨w.1.size+1+1,0,aA⟩ (lA mA o)).setCell ⟨w.1.size+1+1,1,aA⟩ (oA z (vA p) E)) w.1.size z p:=(vC.turned G.o A (fun g h1 h2 e=>by omega)).mono (by omega);have C:=((bB.of (S:=fun i=>w.1.size<=i) B3.o).trans' (A.mono fun i _ e=>by omega)).below (Ia _) fun i hi h=>by omega
   first
    |exact⟨z,⟨E,rfl⟩,X,C⟩
    |exact⟨z,E,rfl,X,C⟩
  have HV:xA _:=P.o H.o I hbv;have HL3:=yA (c0.o hbv);clear c0 b0 N O P;go_wp2_with fail;refine(e0.o l m _ _ _ I H.o HL3.o).mono ?_;rintro e u ⟨z,E,rfl,D,y⟩;have G:xA (vC u w2.1.size z R.2.1):=D;have F:xA (iB u (w.1.size+1+1) #[lA mA 0,oA aA 0 0] 41):=R2.o.z y;have B3:xA _:=oB B2.o y;clear D y;have y0:cC u (w.1.size+1+1) 0 (lA mA 0):=F.o.cell 0;have y1:cC u (w.1.size+1+1) 1 (oA aA 0 0):=F.o.cell 1;have d:=F.o.free 0;have b:=F.o.free 1;have hw2:=zA R2.o;go_wp2;have A:bB (·=w.1.size+1+1) u ((u.setCell ⟨w.1.size+1+1,0,aA⟩ (lA mA R.1)).setCell ⟨w.1.size+1+1,1,aA⟩ (oA z (vA R.2.1) E)):=((bB.refl (·=w.1.size+1+1) u).setCell (Ca rfl) 0 _).setCell (Ca rfl) 1 _;refine bodyPost_ret (v:=uA #[rA #[lA mA R.1,oA z (vA R.2.1) E],pA dA]) (by simp[results,results213,go_sem,y0,y1]) rfl ?_;rw[HV.o,hbv];have X:vC ((u.setCell ⟨w.1.size+1+1,0,aA⟩ (lA mA R.1)).setCell ⟨w.1.size+1+1,1,aA⟩ (oA z (vA R.2.1) E)) w.1.size z R.2.1:=(vC.turned G.o A (fun g h1 h2 e=>by omega)).mono (by omega);have C:=((bB.of (S:=fun i=>w.1.size<=i) B3.o).trans' (A.mono fun i _ e=>by omega)).below (Ia _) fun i hi h=>by omega
  first
   |exact⟨z,⟨E,rfl⟩,X,C⟩
   |exact⟨z,E,rfl,X,C⟩
 have h5':500<vA q:=by omega
 have HV:xA _:=N.o H.o h5';have R2:=RB;have S2:=SB;have B2:=HB;clear d0 e0 N O P;have s0:cC Z (w.1.size+1) 0 (lA mA o):=S2.o.cell 0;have s1:cC Z (w.1.size+1) 1 (oA a (vA p) s):=S2.o.cell 1;go_wp2_with fail;refine(b0.o _ B2.o).mono ?_;rintro e u ⟨z,E,rfl,D,y⟩;have G:xA (vC u Z.1.size z p):=D;have F:xA (iB u (w.1.size+1+1) #[lA mA 0,oA aA 0 0] 41):=R2.o.z y;have B3:xA _:=oB B2.o y;clear D y s0 s1;have y0:cC u (w.1.size+1+1) 0 (lA mA 0):=F.o.cell 0;have y1:cC u (w.1.size+1+1) 1 (oA aA 0 0):=F.o.cell 1;have d:=F.o.free 0;have b:=F.o.free 1;have hw2:=zA R2.o;go_wp2;have A:bB (·=w.1.size+1+1) u ((u.setCell ⟨w.1.size+1+1,0,aA⟩ (lA mA o)).setCell ⟨w.1.size+1+1,1,aA⟩ (oA z (vA p) E)):=((bB.refl (·=w.1.size+1+1) u).setCell (Ca rfl) 0 _).setCell (Ca rfl) 1 _;refine bodyPost_ret (v:=uA #[rA #[lA mA o,oA z (vA p) E],pA cA]) (by simp[results,results213,go_sem,y0,y1]) rfl ?_;rw[HV.o];have X:vC ((u.setCell ⟨w.1.size+1+1,0,aA⟩ (lA mA o)).setCell ⟨w.1.size+1+1,1,aA⟩ (oA z (vA p) E)) w.1.size z p:=(vC.turned G.o A (fun g h1 h2 e=>by omega)).mono (by omega);have C:=((bB.of (S:=fun i=>w.1.size<=i) B3.o).trans' (A.mono fun i _ e=>by omega)).below (Ia _) fun i hi h=>by omega
 first
  |exact⟨z,⟨E,rfl⟩,X,C⟩
  |exact⟨z,E,rfl,X,C⟩
end
def AW(a:List eC):List gB:=a.flatMap fun l=>[kO l.N,qF l.V]
def rb(a:List eC)(k:Nat)(h:k<vA a):AW (a.take (k+1))=AW (a.take k)++[kO a[k].N,qF a[k].V]:=by
 unfold AW;rw[Pa h,He];rfl
def XS:∀(a:List eC),lF (AW a)=jD a
 |[]=>rfl
 |l::r=>by
  have e:AW (l::r)=[kO l.N,qF l.V]++AW r:=rfl;rw[e,zF,XS r,jD];simp[lF]
def aFn(a:iC)(Z:Nat)(c:List eC)(w:eA)(hf:yD w a c)(hB:bk c)(hlen:vA c<=16):
 qD 172 #[oA a (vA c) Z] w (nA (bI c)):=by
 have HF:xA (yD w a c):=hf;have HB:xA (bk c):=hB;have HU:xA (∀W,qD 35 #[lA mA (vA c:Nat)] W (nA (pB 1 (vA c:Nat)))):=fun W=>EP (vA c) W;have hz1:=qB 1 (vA c:Nat);have V:xA (bI c=pB 1 (vA c:Nat)++jD c):=rfl;generalize pB 1 (vA c:Nat)=Y at *;obtain⟨ti,O,g0,h0,i0⟩:=BQ;have HI:xA (prog.info? 9=bA ti):=O;clear hf hB O;go_enter func172,ntmps172;go_wp2_with fail;apply aC (HU.o _);intro Q r;have B1:xA (kB w Q):=r;have e0:w.1.size<=Q.1.size:=r.size;clear r;go_wp2;go_loopw [3,5,12] (fun k0 _ i wr=>∃(k:Nat)(f:List gB)(g C:Nat),k<=vA c/\i=lA mA k/\k0=oA (bA ⟨g,0,aA⟩) (vA f) C/\vA f<=1+2*k/\wF f<=1+k*3000000000/\xA (f=Y::AW (c.take k))/\xA (wr.ownsRow w.1.size 9 1 (oA (bA ⟨g,0,aA⟩) (vA f) C) (vA f) (f.map iA.string))/\kB w wr) (fun _ _ i _=>vA c-(intOf i).toNat)
 case atStart=>
  exact⟨0,[Y],_,_,Oa _,rfl,rfl,by simp,by simp[wF];omega,rfl,⟨rfl,La ⟨Q.1.size,1,_,rfl,e0,heap_alloc_new _ _,Ia _,by simp[maxLen],rfl,rfl⟩⟩,oB B1.o vB⟩
 case round=>
  obtain⟨k,f,g,C,hk,rfl,rfl,hpl,hps,I,j,n⟩:=hrel;by_cases E:k<vA c
  .obtain ⟨b,o,rfl,hb,c0,c1⟩:=(HF.o.z n).at E;obtain⟨b0,d0⟩:=HB.o k E;have X:xA (∀W,qD 171 #[nA c[k].N] W (nA (kO c[k].N))):=fun W=>pT c[k].N W b0;have J:xA (∀W,qD 146 #[nA c[k].V] W (nA (qF c[k].V))):=fun W=>yL c[k].V W d0;have hz8:=lH c[k].N;have hz16:=uF c[k].V;have HT:=rb c k E;have U:xA (f++[kO c[k].N,qF c[k].V]=Y::AW (c.take (k+1))):=by show _=_;rw[HT,I.o];rfl
   clear HT;generalize kO c[k].N=q at *;generalize qF c[k].V=h at *;generalize c[k].N=F at *;generalize c[k].V=G at *;have s:xA (iB (wr.alloc (tA #[nA F,nA G] 116)) wr.1.size #[nA F,nA G] 116/\kB wr (wr.alloc (tA #[nA F,nA G] 116))):=⟨heap_alloc_new _ _,vB⟩
   have B:xA ((wr.alloc (tA #[nA F,nA G] 116)).ownsRow w.1.size 9 1 (oA (bA ⟨g,0,aA⟩) (vA f) C) (vA f) (f.map iA.string)/\kB w (wr.alloc (tA #[nA F,nA G] 116))):=⟨jC j.o vB,oB n vB⟩
   go_wp2_with fail;generalize wr.alloc (tA #[nA F,nA G] 116)=W at *;have S:=s.o.1.cell 0;have T:=s.o.1.cell 1;simp only[Xb,Ob,Ga]at S T;have l:wr.1.size<W.1.size:=zA s.o.1;have j0:w.1.size<=W.1.size:=B.o.2.size;have hgB:g<wr.1.size:=(oG j.o).2.1;clear j s hb c0 c1 n;generalize wr.1.size=v at *;clear wr;go_region_held3 (fun p=>p.cell? ⟨v,0,aA⟩=bA (nA F)/\p.cell? ⟨v,1,aA⟩=bA (nA G))
    (first
     |go_keep
     |exact⟨z.trans S,A.trans T⟩
     |exact⟨((d.alloc d.size _).cell l).trans S,((d.alloc d.size _).cell l).trans T⟩
     |exact⟨(d.cell l).trans S,(d.cell l).trans T⟩
     |exact⟨(u.cell l).trans S,(u.cell l).trans T⟩)
    ((first
      |(go_at_call 171;apply aC (X.o _);intro Q r;have u:kB W Q:=(Below.refl _ W).drew.trans r)
      |(go_at_call 146;apply aC (J.o _);intro w2 t;have d:kB W w2:=u.trans (t.mono u.size))
      |(refine tK _ (by rfl) _ _ _ (by rfl) w.1.size 9 ti _ 1 16 underlying204 HI.o g0 h0 i0 rfl (by omega) g (vA f) C _ (by rfl) (by exact jC (jC B.o.1 d) vB) _ 2 2 [nA q,nA h] (by rfl) rfl (by exact La ⟨_,rfl,eA.news_of_block (cs:=#[nA q,nA h]) (heap_alloc_new _ _)⟩) (by simp[iA.oneCell']) (by simp[maxLen];omega) (by omega) (by have:=d.size;simp;omega) ?_;intro g5 x R m K D hg5 L hlt5;have z:R.cell? ⟨v,0,aA⟩=W.cell? ⟨v,0,aA⟩:=(eA.cell?_of_block (D v (by have:=d.size;simp;omega) (by omega))).trans ((d.alloc d.size _).cell l);have A:R.cell? ⟨v,1,aA⟩=W.cell? ⟨v,1,aA⟩:=(eA.cell?_of_block (D v (by have:=d.size;simp;omega) (by omega))).trans ((d.alloc d.size _).cell l);have y:kB w R:=((oB B.o.2 d).alloc (Ua j0 d.size) _).trans K)))
   have P:f.map iA.string++[iA.string q,nA h]=(f++[q,h]).map iA.string:=by simp
   have N:vA (f++[q,h])=vA f+2:=by simp
   have hsm:wF (f++[q,h])=wF f+(q.size+h.size):=by rw[nH];simp[wF]
   rw[P,<-N]at m;rw[<-N];have H:xA (R.ownsRow w.1.size 9 1 (.slice (bA ⟨g5,0,aA⟩) (vA (f++[q,h])) x) (vA (f++[q,h])) ((f++[q,h]).map iA.string)/\kB w R):=⟨m,y⟩
   clear m K y D L z A P;generalize f++[q,h]=l0 at *;go_wp2;exact⟨⟨k+1,l0,g5,x,by omega,by go_num,rfl,by omega,by omega,U.o,H.o.1,H.o.2⟩,by simp[intOf];omega⟩
  have U:xA (lF f=bI c):=by
   show _=_;rw[I.o,Ra (by omega),lF,XS,V.o]
  obtain⟨a0,hg,M⟩:=oG j.o;have HJ:xA (qD 137 #[oA (bA ⟨g,0,aA⟩) (vA f) C] wr (nA (lF f))):=lI g (vA f) C f wr rfl M hg a0 (by omega) (by omega);rw[U.o]at HJ;clear j M;go_wp2_with fail;apply aC HJ.o;intro w2 t;have B2:xA (kB w w2):=oB n t;clear t;go_wp2;go_ret;exact⟨rfl,B2.o⟩
