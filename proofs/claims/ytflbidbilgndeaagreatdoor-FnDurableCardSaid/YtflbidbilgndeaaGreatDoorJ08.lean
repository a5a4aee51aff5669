import Derived.Test.YtflbidbilgndeaaGreatDoorJ06
import Derived.Deep.RegionHeld3
set_option maxRecDepth 100000
set_option maxHeartbeats 2000000
set_option linter.defProp false
open Option renaming some->bA
open Bool renaming true->dA,false->cA
open ByteArray renaming empty->kA
open List renaming length->yA
namespace Go.Proofs.YtflbidbilgndeaaGreatDoor
open Go renaming World->eA,TypeId->jA,Value->iA
open Value renaming slice->pA,string->oA
open Obj renaming cells->vA
open Go.RowKit Tryz
theorem kI{D:Array Oper}{d:List Oper}{o:Oper}{a:Act}{Q:Exit->Act->eA->Prop}{w:eA}(r:o.guard=none)(s x:Operand){m T:jA}{z:iA}{j b:Nat}
(K:o.op=.call { callee:=.builtin .append,args:=#[s,x],argTypes:=#[m,m] })(N:prog.underlying m=bA (.slice T))(y:(prog.info? T).map (λi=>(i.zero,i.size,i.bytes))=bA (bA z,j,b))(P:z.cells.size=j)(E:0<j)(G:b<=100)
{B n:Nat}{v:iA}{A:List iA}{cs:Array iA}(M:a.eval s=v)(C:w.ownsRow B T j v n A){p:Nat}(O:a.eval x=pA (yB p) 1 1)(L:w.1.size=p)(H:cs.size=j)(F:∀u∈cs.toList,u.oneCell'=dA)(J:n<=5000000)(V:B<=w.1.size)
(h:∀g c l,cB (l.ownsRow B T j (pA (yB g) (n+1) c) (n+1) (A++cs.toList))->cB (eB (λi=>B<=i/\v.ownBlock=bA i) w l)->cB (v.ownBlock=bA g\/w.1.size<=g)->wpList prog D Q d (a.put o.dst (pA (yB g) (n+1) c)) l):
 wpList prog D Q (o::d) a (w.alloc (vA cs T)):=by
 subst L;obtain⟨i,y,R,S,U⟩:=info_parts y;have I:(n+1)*b<=140737488355328:=Ua (Hf (Nat.add_le_add_right J 1) G) (by decide);refine wpList_append_lies _ r s x _ K B T i z j b N y R S U P E v n A M (eA.ownsRow.alloc C _) (dB w.1.size 0) 1 1 cs.toList O (by simpa using H) (by
  have:=eA.news_of_block (cs:=cs) (t:=T) (fr:=(0,0)) (heap_alloc_new w (vA cs T));simpa using this) F (by omega) (by simp[maxLen];omega) I (by simp;omega) (w.1.size+1) (by simp) ?_
 intro g c l k f q _;exact h g c l k ((eB.of (wF w (vA cs T))).trans' ((eB.grown f).mono λi _ e=>⟨(C.lt i e).1,e⟩)) (q.imp_right λe=>by rw[e];simp)
def pQ{k:Array Oper}{b:List Oper}{o:Oper}{a:Act}{Q:Exit->Act->eA->Prop}{w:eA}(m:o.guard=none)(s x:Operand){f T:jA}{z:iA}{c d:Nat}
(E:o.op=.call { callee:=.builtin .append,args:=#[s,x],argTypes:=#[f,f] })(I:prog.underlying f=bA (.slice T))(A:(prog.info? T).map (λi=>(i.zero,i.size,i.bytes))=bA (bA z,c,d))(K:z.cells.size=c)(q:0<c)(y:d<=100)
{B n:Nat}{v:iA}{l:List iA}{cs:Array iA}(H:a.eval s=v)(G:w.ownsRow B T c v n l){p:Nat}(J:a.eval x=pA (yB p) 1 1)(F:w.1.size=p)(C:cs.size=c)(r:∀u∈cs.toList,u.oneCell'=dA)(D:n<=5000000)(t:B<=w.1.size)
(h:∀g e j,cB (j.ownsRow B T c (pA (yB g) (n+1) e) (n+1) (l++cs.toList))->cB (eB (λi=>B<=i/\v.ownBlock=bA i) w j)->wpList prog k Q b (a.put o.dst (pA (yB g) (n+1) e)) j):
 wpList prog k Q (o::b) a (w.alloc (vA cs T)):=by grind [kI]
def tD{P:Program}{f:FuncId}{args:Array iA}{w:eA}{E:Ending}{Q:Ending->eA->Prop}(h:Calls P f args w λe a=>e=E/\a=w)(k:Q E w):Calls P f args w Q:=h.mono (by rintro _ _ ⟨rfl,rfl⟩;exact k)
def VN{w b:eA}{g:Nat}{c d e f:iA}(h:b.heap[g]?=w.heap[g]?)(q:w.cell? (dB g 0)=bA c/\w.cell? (dB g 1)=bA d/\w.cell? (dB g 2)=bA e/\w.cell? (dB g 3)=bA f):b.cell? (dB g 0)=bA c/\b.cell? (dB g 1)=bA d/\b.cell? (dB g 2)=bA e/\b.cell? (dB g 3)=bA f:=by
 simp only[eA.cell?_of_block (a:=(dB g _)) h];exact q
def vQ{wr c:eA}{N B n g:Nat}{t E:jA}{cs:Array iA}{h:List iA}{v a:iA}(k:nB wr N cs t)(f:eB (λj=>B<=j/\v.ownBlock=bA j) wr c)(d:c.ownsRow B E g a n h)(m:N<B)(i:Nat):
 nB (c.setCell (dB N i) a) N (cs.setIfInBounds i a) t/\(c.setCell (dB N i) a).ownsRow B E g a n h/\eB (λj=>j=N\/B<=j/\v.ownBlock=bA j) wr (c.setCell (dB N i) a):=
 ⟨(f.blk k (λe=>by omega)).set i a,((eB.refl (·=N) c).setCell (Ca rfl) i _).row d (λb l e=>by have:=(d.lt b l).1;omega),(f.mono λi _ e=>La e).trans' (((eB.refl (·=N) c).setCell (Ca rfl) i a).mono λi _ e=>Ca e)⟩
def kQ{V:Array Oper}{o:Oper}{a:Act}{K:Act->eA->Prop}{Q:Exit->Act->eA->Prop}{E:Prop}{w:eA}(q:o.guard=none)(s x:Operand){l T:jA}{z:iA}{f b:Nat}
(J:o.op=.call { callee:=.builtin .append,args:=#[s,x],argTypes:=#[l,l] })(N:prog.underlying l=bA (.slice T))(r:(prog.info? T).map (λi=>(i.zero,i.size,i.bytes))=bA (bA z,f,b))(P:z.cells.size=f)(C:0<f)(F:b<=100)
{B n:Nat}{v:iA}{y:List iA}{cs:Array iA}(M:a.eval s=v)(A:w.ownsRow B T f v n y){p:Nat}(O:a.eval x=pA (yB p) 1 1)(L:w.1.size=p)(G:cs.size=f)(D:∀u∈cs.toList,u.oneCell'=dA)(I:n<=1000000000)(W:B<=w.1.size)
(h:∀g c k,cB (k.ownsRow B T f (pA (yB g) (n+1) c) (n+1) (y++cs.toList))->cB (eB (λi=>B<=i/\v.ownBlock=bA i) w k)->cB (v.ownBlock=bA g\/w.1.size<=g)->K (a.put o.dst (pA (yB g) (n+1) c)) k):
 if Region.wanted o (yielded V a.tmps)=dA then Oper.wp prog o a (w.alloc (vA cs T)) K Q else E:=by
 subst L;obtain⟨i,r,R,S,U⟩:=info_parts r;have H:(n+1)*b<=140737488355328:=Ua (Hf (Nat.add_le_add_right I 1) F) (by decide);refine step_append_lies _ q s x _ J B T i z f b N r R S U P C v n y M (eA.ownsRow.alloc A _) (dB w.1.size 0) 1 1 cs.toList O (by simpa using G) (by
  have:=eA.news_of_block (cs:=cs) (t:=T) (fr:=(0,0)) (heap_alloc_new w (vA cs T));simpa using this) D (by omega) (by simp[maxLen];omega) H (by simp;omega) (w.1.size+1) (by simp) ?_
 intro g c k j d m _;exact h g c k j ((eB.of (wF w (vA cs T))).trans' ((eB.grown d).mono λi _ e=>⟨(A.lt i e).1,e⟩)) (m.imp_right λe=>by rw[e];simp)
def bT{Y:Array Oper}{o:Oper}{a:Act}{K:Act->eA->Prop}{Q:Exit->Act->eA->Prop}{E:Prop}{w:eA}(v:o.guard=none)(s x:Operand){p T:jA}{z:iA}{e d:Nat}
(N:o.op=.call { callee:=.builtin .append,args:=#[s,x],argTypes:=#[p,p] })(R:prog.underlying p=bA (.slice T))(y:(prog.info? T).map (λi=>(i.zero,i.size,i.bytes))=bA (bA z,e,d))(U:z.cells.size=e)(D:0<e)(J:d<=100)
{B j n r:Nat}{A:List iA}(P:a.eval s=pA (yB j) n r)(O:w.ownsRow B T e (pA (yB j) n r) n A){q:mC}{m C:Nat}(b:List iA)(S:a.eval x=pA q m C)(L:yA b=m*e)(l:eT w q m b)(t:∀u∈b,u.oneCell'=dA)(M:n+m<=1000000000)(I:B<=w.1.size)
(h:∀g c f,f.ownsRow B T e (pA (yB g) (n+m) c) (n+m) (A++b)->Below B w f->(∀k,k<w.1.size->k≠j->f.heap[k]?=w.heap[k]?)->(g=j\/g=w.1.size)->K (a.put o.dst (pA (yB g) (n+m) c)) f):
 if Region.wanted o (yielded Y a.tmps)=dA then Oper.wp prog o a w K Q else E:=by
 obtain⟨i,y,V,W,X⟩:=info_parts y;exact iJ w v s x _ N B T i z e d R y V W X U D j n r A P O q m C b S L l t (by simp[maxLen];omega) (Ua (Hf M J) (by decide)) I λg c f t F G _ H _=>h g c f t F G H
def mR:(prog.info? 96).map (λi=>(i.zero,i.size,i.bytes))=bA (bA (.agg #[oA ⟨#[]⟩,zA 0]),2,24):=by kernel_rfl
def uT:(prog.info? 98).map (λi=>(i.zero,i.size,i.bytes))=bA (bA (.agg #[oA ⟨#[]⟩,zA 0]),2,24):=by kernel_rfl
def QU:(prog.info? 181).map (λi=>(i.zero,i.size,i.bytes))=bA (bA (.agg #[oA kA,oA kA]),2,32):=by kernel_rfl
def QX:(prog.info? 111).map (λi=>(i.zero,i.size,i.bytes))=bA (bA (.agg #[pA none 0 0,zA 0]),2,32):=by kernel_rfl
def xK:(prog.info? 9).map (λi=>(i.zero,i.size,i.bytes))=bA (bA (oA kA),1,16):=by kernel_rfl
def iw:(prog.info? 3).map (λi=>(i.zero,i.size,i.bytes))=bA (bA (zA 0),1,8):=by kernel_rfl
def NN(a:List Nat):List Int:=a.map fun(r:Nat)=>(r:Int)
def SJ(a:List Nat):yA (NN a)=yA a:=by simp[NN]
def aCh(a:List Nat)(r:Nat):NN (a++[r])=NN a++[(r:Int)]:=by simp[NN]
def aIv(r:Nat)(h:¬r<32):bC (r:Int) 127 159=DY r:=by
 unfold bC DY;rw[Qb];simp;omega
def xv(l:List Nat)(k:Nat)(h:k<yA l):l.any DY=((l.take k).any DY||(DY l[k] ||(l.drop (k+1)).any DY)):=by
 have e:=Za k l;rw[Cb h]at e;rw[<-List.any_cons,<-Tf,e]
def MU(s:jB)(w:eA)(hs:s.size<=1000000000):
 dF 176 #[oA s] w (zA (qP s:Nat)):=by
 obtain⟨ti,K,Y,Z,I⟩:=aFe;have O:cB _:=K;clear K;go_enter func176,ntmps176;go_wp2;go_loopw [3,4,5,6] (λG x _ _ wr=>∃(p:Nat)(a:List Nat)(F:mC)(M:Nat),p<=s.size/\yA a<=p/\cB (CK s p a/\∀i(h:i<yA a),a[i]<=1114111)/\x=zA p/\G=pA F (yA a) M/\cB (wr.ownsRow w.1.size 3 1 (pA F (yA a) M) (yA a) ((NN a).map (iA.int .i64)))/\uB w wr) (λ_ x _ _ _=>s.size-(intOf x).toNat)
 case atStart=>
  exact⟨0,[],_,_,Oa _,Oa _,⟨CK.start s,λi h=>absurd h (by simp)⟩,rfl,rfl,eA.ownsRow_made w #[] 0 (Ia _) (by simp[maxLen]) (by simp),zB⟩
 case round=>
  obtain⟨p,a,F,M,G,G,B,rfl,rfl,f,c⟩:=hrel;have G:=c.size;by_cases A:p<s.size
  .have hz:(s.extract p s.size).size=s.size-p:=by simp
   have d:=λW=>dq (s.extract p s.size) W (by omega) (by unfold maxLen;omega);rw[aNc]at d;by_cases y:Utf8.decode s p=(65533,1)
   .rw[Ma y]at d;have v:cB (∀W,rL 232 #[oA (s.extract p s.size)] W (.tuple #[zA 0,zA 0])):=d;have D:cB _:=B.o.1.bad A y;clear d y hz;go_wp2_with fail;apply dR (v.o _);go_wp2;go_ret;exact⟨uF (by rw[D.o];rfl),c⟩
   rw[Ja y]at d;have G:=nX s p;have G:=LD s p A y;have J:=tZ s p;have S:cB (CK s (p+(Utf8.decode s p).2) (a++[(Utf8.decode s p).1])):=B.o.1.step A y;generalize (Utf8.decode s p).1=R at *;generalize (Utf8.decode s p).2=N at *;have v:cB _:=d;have G:((N:Int)==0)=cA:=by simp;omega
   obtain⟨V,G⟩:=J;clear d y hz;go_wp2_with fail;apply dR (v.o _);go_wp2_with(at_builtin;refine wpList_append_lies _ rfl _ _ _ rfl w.1.size 3 ti _ 1 8 underlying26 O.o Y Z I rfl (by omega) (pA F (yA a) M) (yA a) ((NN a).map (iA.int .i64)) rfl (by exact hC f.o zB) (dB wr.1.size 0) 1 1 [zA (R:Int)] rfl rfl (by exact eA.news_of_block (heap_alloc_new _ _)) (by simp[iA.oneCell']) (by omega) (by simp[maxLen];omega) (by omega) (by simp;omega) (wr.1.size+1) (by simp) ?_;intro J G O l n I I);have T:uB w O:=(vB c zB).grown n (by simp;omega) (λq O=>by
    obtain⟨U,_⟩|⟨g,cap,I,U,I,_⟩:=f.o.2;rw[U]at O;simp[iA.ownBlock]at O;rw[U]at O;simp[iA.ownBlock]at O;omega)
   have X:(NN a).map (iA.int .i64)++[iA.int .i64 (R:Int)]=(NN (a++[R])).map (iA.int .i64):=by simp[aCh]
   have z:yA (a++[R])=yA a+1:=by simp
   rw[X,<-z]at l;refine⟨⟨p+N,a++[R],yB J,G,by omega,by rw[z];omega,⟨S.o,λi G=>?_⟩,by go_num,by rw[z],l,T⟩,by simp[intOf];omega⟩;by_cases e:i<yA a
   .rw[Ve e];exact B.o.2 i e
   rw[Re (by omega)];simp;exact V
  have D:cB _:=B.o.1.done (by omega);by_cases t:128<yA a
  .have m:cB (qP s=43):=by show _=_;rw[D.o,UJ,Ma t]
   go_wp2;go_ret;exact⟨uF (by rw[m.o];rfl),c⟩
  have m:cB (qP s=if a.any DY=dA then 44 else 0):=by show _=_;rw[D.o,UJ,Ja t]
  have I:cB (OO wr F (NN a)):=km (by rw[SJ];exact f.o);have J:cB _:=B.o.2;clear f B D;go_wp2;go_loop [8,35] (λ_ i=>∃k:Nat,k<=yA a/\i=zA k/\cB ((a.take k).any DY=cA)) (λ_ i=>yA a-(intOf i).toNat)
  case atStart=>exact⟨0,Oa _,rfl,by show _=_;simp⟩
  case round=>
   obtain⟨k,G,rfl,G⟩:=hrel;by_cases j:k<yA a
   .obtain ⟨b,o,rfl,hb,c0⟩:=I.o.at (i:=k) (by rw[SJ];exact j)
    have I:=J.o k j;have I:(NN a)[k]'(by rw[SJ];exact j)=((a[k]:Nat):Int):=by simp[NN]
    rw[I]at c0;have r:cB (DY a[k]=dA->qP s=44):=λh=>by rw[m.o,xv a k j,h];simp
    have Q:cB (DY a[k]=cA->(a.take (k+1)).any DY=cA):=λh=>by rw[Pa j,Tf,G.o];simp[h]
    have P:=aIv a[k];clear I;generalize a[k]=R at *;by_cases H:R<32
    .have E:cB (DY R=dA):=by show _=_;simp[DY,H]
     clear P;go_wp2;go_ret;exact⟨uF (by rw[r.o E.o];rfl),c⟩
    have C:cB _:=P H;clear P;by_cases I:DY R=dA
    .have u:cB _:=C.o.trans I;have L:cB _:=I;clear I;go_wp2_with fail;apply lC (dE _ _ _ _);intro w1 h;rw[u.o];replace h:=h.symm;subst h;go_wp2;go_ret;exact⟨uF (by rw[r.o L.o];rfl),c⟩
    have L:cB (DY R=cA):=by show _=_;simpa using I
    have u:cB _:=C.o.trans L.o;clear I;go_wp2_with fail;apply lC (dE _ _ _ _);intro w1 h;rw[u.o];replace h:=h.symm;subst h;go_wp2;exact⟨⟨k+1,by omega,by go_num,Q.o L.o⟩,by simp[intOf];omega⟩
   have h:cB (qP s=0):=by
    show _=_;have:=G.o;rw[Ra (by omega)]at this;rw[m.o,this];rfl
   go_wp2;go_ret;exact⟨uF (by rw[h.o];rfl),c⟩
def vC(a:List dC):List iA:=a.flatMap λx=>[oA x.N,oA x.V]
def cG(a b:List dC):vC (a++b)=vC a++vC b:=by simp[vC]
def vG(a:List dC):yA (vC a)=yA a*2:=by
 induction a with
 |nil=>rfl
 |cons f r b=>simp[vC]at *;omega
def GQ:∃i,prog.info? 181=bA i/\i.zero=bA (.agg #[oA kA,oA kA])/\i.size=2/\i.bytes=32:=by
 obtain⟨i,b,a⟩:=Wb.1 tT;simp only[Dc]at a;exact⟨i,b,a.1,a.2.1,a.2.2⟩
def XN(W:eA)(x:Obj)(cs:Array iA)(t:jA):∀j u,cs.toList[j]?=bA u->((W.alloc x).alloc (vA cs t)).cell? (((dB (W.1.size+1) 0):Addr).add j)=bA u:=
 eA.news_of_block (fr:=(0,0)) (by have h:=heap_alloc_new (W.alloc x) (vA cs t);simpa using h)
def jh(l:dC):wT l=l.V.toList.isEmpty:=by simp_all[wT]
def pT(b:List dC):∀u∈vC b,u.oneCell'=dA:=by
 intro u a;simp only[vC,Ig,Lb,Ed,Bf]at a;obtain⟨f,_,rfl|rfl⟩:=a<;>rfl
theorem aEr{w:eA}{g:Nat}{a:List dC}(h:∀j u,(vC a)[j]?=bA u->w.cell? (dB g j)=bA u)(p:Nat):∀j u,(vC (a.drop p))[j]?=bA u->w.cell? (dB g (p*2+j))=bA u:=by
 intro j u b;refine h _ _ ?_;by_cases d:p<=yA a
 .have e:vC a=vC (a.take p)++vC (a.drop p):=by rw[<-cG,Za]
  have c:yA (vC (a.take p))=p*2:=by rw[vG,Hb];omega
  rw[e,Uc (by omega),c,Nat.add_sub_cancel_left];exact b
 rw[Yb (by omega)]at b;simp[vC]at b
theorem pv{a:List dC}{p:Nat}:∀(j:Nat)(u:iA),(vC (a.take p))[j]?=bA u->(vC a)[j]?=bA u:=by
 intro j u b;have e:vC a=vC (a.take p)++vC (a.drop p):=by rw[<-cG,Za]
 have c:j<yA (vC (a.take p)):=(Pb.1 b).1;rw[e,Pe c];exact b
def aL{w:eA}{B:Nat}{e:jA}{g i:Nat}{a:List dC}(h:w.ownsRow B e 2 (pA (yB g) (yA a) i) (yA a) (vC a)):yA a<=i/\g<w.1.size/\B<=g/\∀j u,(vC a)[j]?=bA u->w.cell? (dB g j)=bA u:=by
 obtain⟨b,_⟩|⟨p,f,d,b,l,k,m,_,_,o⟩:=h.2;simp at b;simp only[iA.slice.injEq,Qa,Addr.mk.injEq,Cc]at b;obtain⟨rfl,_,rfl⟩:=b;refine⟨m,aB k,l,λj u c=>?_⟩;rw[cell_of_row w g j d _ _ k,<-Yd];rw[<-o]at c;have n:=(Pb.1 c).1;rw[Hb]at n;rw[Jb (by omega)]at c;exact c
def mx{w:eA}{g:Nat}{a:List dC}(h:∀j u,(vC a)[j]?=bA u->w.cell? (dB g j)=bA u)(p:Nat):eT w (yB g) p (vC (a.take p)):=by grind [vC,eT,FR,pv]
def my{w:eA}{g b:Nat}{a:List dC}(h:∀j u,(vC a)[j]?=bA u->w.cell? (dB g j)=bA u)(p:Nat)(c:yA a<=b):eT w (if b=p then yB g else bA (dB g (p*2))) (yA a-p) (vC (a.drop p)):=by grind [vC,eT,FR,aEr]
def dr{w:eA}{g:Nat}{x y:iA}{t:jA}(h:w.heap[g]?=bA (vA #[x,y] t (0,0))):eT w (yB g) 1 [x,y]:=
 La ⟨_,rfl,eA.news_of_block (cs:=#[x,y]) h⟩
def oZ{W w:eA}{g:Nat}{a:List dC}(h:∀j u,(vC a)[j]?=bA u->W.cell? (dB g j)=bA u)(c:g<W.1.size)(b:uB W w):∀j u,(vC a)[j]?=bA u->w.cell? (dB g j)=bA u:=
 λj u d=>(b.cell c).trans (h j u d)
def xe(W:eA)(x y:Obj):((W.alloc x).alloc y).drew.heap[W.1.size+1]?=bA y:=by
 have h:=heap_alloc_new (W.alloc x) y;have e:(W.alloc x).1.size=W.1.size+1:=by simp
 rw[e]at h;exact h
def xg(W:eA)(x y:Obj):((W.alloc x).alloc y).drew.heap[W.1.size]?=bA x:=by
 have h:=heap_alloc_new W x;have a:=(wF (W.alloc x) y).block W.1.size (by simp);exact a.trans h
def aNx(W:eA)(t:jA):(W.alloc (vA #[] t)).drew.ownsRow W.1.size t 2 (pA (yB W.1.size) 0 0) 0 []:=
 ⟨rfl,La ⟨W.1.size,0,#[],rfl,Ia _,heap_alloc_new _ _,Ia _,Oa _,rfl,rfl⟩⟩
def aNy(W:eA)(t:jA)(x:Obj):((W.alloc (vA #[] t)).alloc x).drew.ownsRow W.1.size t 2 (pA (yB W.1.size) 0 0) 0 []:=
 ⟨rfl,La ⟨W.1.size,0,#[],rfl,Ia _,xg _ _ _,Ia _,Oa _,rfl,rfl⟩⟩
def aNz(W:eA)(t:jA)(x:Obj):((W.alloc x).alloc (vA #[] t)).drew.ownsRow W.1.size t 2 (pA (yB (W.1.size+1)) 0 0) 0 []:=
 ⟨rfl,La ⟨W.1.size+1,0,#[],rfl,by omega,xe _ _ _,Ia _,Oa _,rfl,rfl⟩⟩
def pW{s:jB}(h:¬bj s):RO s=cA:=Ub h
def XL{s:jB}(h:bj s):RO s=dA:=Ac h
def df(s:jB)(w:eA)(A:s.size<=maxLen):
 rL 178 #[oA s] w (.bool (RO s)):=by
 unfold maxLen at A;by_cases b:1<=s.size/\s.size<=64
 .have c:bC (s.size:Int) 1 64=dA:=by simp[bC];omega
  have g:cB _:=c;clear c;have t:0<s.size:=by omega
  have o:=b.2;have x:s[0].toNat<256:=s[0].toNat_lt;have a:cB _:=fW s 0 t;by_cases q:48<=s[0].toNat/\s[0].toNat<=57
  .have E:cB (RO s=cA):=pW (λh=>by
    have:=h.2.2 0 t;unfold CZ jZ at this;rw[<-a.o]at this;omega)
   have d:¬((s[0].toNat:Int)<48):=by omega
   have z:¬((57:Int)<(s[0].toNat:Int)):=by omega
   clear q b;go_enter func178,ntmps178;go_wp2_with fail;apply lC (dE _ _ _ _);intro u C;rw[g.o];replace C:=C.symm;subst C;go_wp2;go_ret;exact⟨oB E.o.symm,rfl⟩
  .have v:cB (¬(48<=aD s 0/\aD s 0<=57)):=by show ¬_;rw[<-a.o];exact q
   have d:(s[0].toNat:Int)<48\/(57:Int)<(s[0].toNat:Int):=by omega
   clear q b;go_enter func178,ntmps178;go_wp2_with fail;apply lC (dE _ _ _ _);intro u C;rw[g.o];replace C:=C.symm;subst C;go_wp2;all_goals
    go_loop [3,4] (λi _=>∃j:Nat,j<=s.size/\i=zA j/\cB (∀k,k<j->CZ s k)) (λi _=>s.size-(intOf i).toNat)
    case atStart=>exact⟨0,Oa _,rfl,λk r=>absurd r (by omega)⟩
    case round=>
     obtain⟨j,G,rfl,m⟩:=hrel;by_cases f:j<s.size
     .have y:s[j].toNat<256:=s[j].toNat_lt;have l:cB _:=fW s j f;have n:cB (j=0->¬(48<=s[j].toNat/\s[j].toNat<=57)):=λe=>by subst e;rw[l.o];exact v.o
      clear d x;by_cases D:s[j].toNat=95
      .have p:((s[j].toNat:Int) != 95)=cA:=by simp;omega
       go_wp2;all_goals
        refine⟨⟨j+1,by omega,by go_num,?_⟩,by simp[intOf];omega⟩;show ∀k,_;intro k r;by_cases e:k=j
        .subst e;unfold CZ jZ;rw[<-l.o];omega
        exact m.o k (by omega)
      have p:((s[j].toNat:Int) != 95)=dA:=by simp;omega
      go_wp2;all_goals first
       |(go_ret
         refine⟨oB (pW ?_).symm,rfl⟩;intro h;have:=h.2.2 j f;unfold CZ jZ PQ at this;rw[<-l.o]at this;omega)
       |(refine⟨⟨j+1,by omega,by go_num,?_⟩,by simp[intOf];omega⟩
         show ∀k,_;intro k r
         by_cases e:k=j
         .subst e
          have:=n.o;unfold CZ jZ PQ;rw[<-l.o];omega
         exact m.o k (by omega))
       |(exfalso;rename_i B;simp at B;omega)
     go_wp2;go_ret;exact⟨oB (XL ⟨by omega,o,λi F=>m.o i (by omega)⟩).symm,rfl⟩
 have c:bC (s.size:Int) 1 64=cA:=by simp[bC];omega
 have g:cB _:=c;have E:cB _:=pW (λh=>b ⟨h.1,h.2.1⟩);clear c b;go_enter func178,ntmps178;go_wp2_with fail;apply lC (dE _ _ _ _);intro u C;rw[g.o];replace C:=C.symm;subst C;go_wp2;go_ret;exact⟨oB E.o.symm,rfl⟩
def VE{P:Program}(w:eA){o:Oper}{a:Act}{K:Act->eA->Prop}{Q:Exit->Act->eA->Prop}(v:o.guard=none)(s x:Operand)(t:jA)
(O:o.op=.call { callee:=.builtin .append,args:=#[s,x],argTypes:=#[t,t] })
(base:Nat)(e:jA)(i:TypeInfo)(z:iA)(b f:Nat)(S:P.underlying t=bA (.slice e))(M:P.info? e=bA i)(U:i.zero=bA z)
(p:i.size=b)(G:i.bytes=f)(I:z.cells.size=b)(H:0<b)
(r n D:Nat)(J:List iA)(R:a.eval s=pA (yB r) n D)(y:w.ownsRow base e b (pA (yB r) n D) n J)
(C:mC)(m c:Nat)(d:List iA)(T:a.eval x=pA C m c)(N:yA d=m*b)(A:eT w C m d)(L:∀u∈d,u.oneCell'=dA)
(F:n+m<=maxLen)(j:(n+m)*f<=140737488355328)(l:base<=w.1.size)
(h:∀g q B,B.ownsRow base e b (pA (yB g) (n+m) q) (n+m) (J++d)->Below base w B->(∀k,k<w.1.size->k≠r->B.heap[k]?=w.heap[k]?)->base<=g->(g=r\/g=w.1.size)->g<B.1.size->K (a.put o.dst (pA (yB g) (n+m) q)) B):
 Oper.wp P o a w K Q:=by
 have V:Region.wanted o (yielded #[] a.tmps)=dA:=by simp[Region.wanted,v]
 have:=iJ (P:=P) w (ops:=#[]) (E:=False) (Q:=Q) v s x t O base e i z b f S M U p G I H r n D J R y C m c d T N A L F j l h;rwa [Ma V]at this
structure TV where
 t:fB
 a1:mC
 c1:Nat
 a2:mC
 c2:Nat
def lF(a:List TV):List iA:=a.flatMap λy=>[oA y.t.N,zA y.t.L,pA y.a1 (yA y.t.M) y.c1,pA y.a2 (yA y.t.Z) y.c2]
def aa(a b:List TV):lF (a++b)=lF a++lF b:=by simp[lF]
def aDe(w:eA)(b:Nat)(T:Nat->Nat)(a:List TV):Prop:=
 ∀i(h:i<yA a),aF w b T (2*i+1) a[i].a1 a[i].t.M/\aF w b T (2*i+2) a[i].a2 a[i].t.Z
def eR(w:eA)(b:Nat)(e:jA)(v:iA)(n:Nat)(a:List fB):Prop:=
 ∃T ys,w.ownsRow b e 4 v n (lF ys)/\ys.map (·.t)=a/\(∀g,v.ownBlock=bA g->T g=0)/\aDe w b T ys
def eR.nil(w:eA)(b:Nat)(e:jA):eR w b e (pA none 0 0) 0 []:=
 ⟨λ_=>0,[],eA.ownsRow_nil _ _ _ _,rfl,λ_ _=>rfl,λi h=>absurd h (by simp)⟩
def eR.row{w:eA}{b:Nat}{e:jA}{v:iA}{n:Nat}{i:List fB}(h:eR w b e v n i):∃a c,v=pA a n c:=by
 obtain⟨_,_,h,_⟩:=h;obtain⟨rfl,rfl⟩|⟨g,d,f,rfl,_⟩:=h.2;exact ⟨none,0,rfl⟩;exact ⟨_,_,rfl⟩
def eR.turn{w f:eA}{S:Nat->Prop}{b:Nat}{e:jA}{v:iA}{n:Nat}{q:List fB}(h:eR w b e v n q)(p:eB S w f)(l:∀g,S g->g<b):eR f b e v n q:=by
 obtain⟨T,t,j,r,s,k⟩:=h;refine⟨T,t,p.row j (λg a e=>by have:=(j.lt g a).1;have:=l g e;omega),r,s,λi m=>?_⟩;have o:∀g,g<w.1.size->b<=g->f.heap[g]?=w.heap[g]?:=λg a c=>p.block g a (λe=>by have:=l g e;omega);exact⟨(k i m).1.keep λg a c d=>⟨o g a c,d⟩,(k i m).2.keep λg a c d=>⟨o g a c,d⟩⟩
def eR.snoc{wr w4 J:eA}{b M d p k:Nat}{e:jA}{v:iA}{T:Nat->Nat}{ys:List TV}{S:List fB}{t:fB}{y A:mC}{P Q:Nat}
(x:J.ownsRow b e 4 (pA (yB d) (k+1) p) (k+1) (lF ys++[oA t.N,zA t.L,pA y (yA t.M) P,pA A (yA t.Z) Q]))
(N:ys.map (·.t)=S)(L:yA ys=k)(K:∀g,v.ownBlock=bA g->T g=0)(hp:aDe wr b T ys)(h:b<=wr.1.size)(X:wr.1.size<=M)
(s:∀g,g<wr.1.size->b<=g->v.ownBlock≠bA g->J.heap[g]?=wr.heap[g]?)(I:∀g,wr.1.size<=g->g<w4.1.size->J.heap[g]?=w4.heap[g]?)
(U:fD w4 wr.1.size y t.M)(D:∀g o,y=bA (dB g o)->g<M)(V:fD w4 M A t.Z)
(G:(v.ownBlock=bA d/\d<wr.1.size)\/w4.1.size<=d)(W:wr.1.size<=w4.1.size)(Y:M<=w4.1.size):eR J b e (pA (yB d) (k+1) p) (k+1) (S++[t]):=by
 have l:∀{B n:Nat}{z:Nat->Nat}{a:mC}{O:List kB},wr.1.size<=B->fD w4 B a O->(∀g o,a=bA (dB g o)->B<=g->g<w4.1.size->z g=n)->aF J b z n a O:=by
  intro B n z a O h h q;obtain h|⟨g,o,C,ty,rfl,E,f,F⟩:=h;exact Ca h;have w:=aB f;have u:=I g (by omega) w;have Z:∀j,J.cell? (dB g j)=w4.cell? (dB g j):=λj=>eA.cell?_of_block u;exact La ⟨g,o,C,ty,rfl,by omega,q g o rfl E w,u.trans f,λi H=>by simp only[Z];exact F i H⟩
 refine⟨λg=>if g<wr.1.size then T g else if g<M then 2*k+1 else if g<w4.1.size then 2*k+2 else 0,ys++[⟨t,y,P,A,Q⟩],?_,?_,?_,?_⟩;rw[aa];exact x;rw[Ld,N];rfl
 .intro g c;simp only[iA.ownBlock,Qa]at c;subst c;obtain⟨h,J⟩|h:=G
  .simp only[Ma J];exact K _ h
  simp only[Ja (show ¬d<wr.1.size by omega),Ja (show ¬d<M by omega),Ja (show ¬d<w4.1.size by omega)]
 intro i H;by_cases r:i<yA ys
 .rw[Ve r];obtain⟨h,G⟩:=hp i r;refine⟨h.keep λg c m q=>⟨s g c m (λe=>by have:=K g e;omega),by simp only[Ma c];exact q⟩,G.keep λg c m q=>⟨s g c m (λe=>by have:=K g e;omega),by simp only[Ma c];exact q⟩⟩
 have e:i=k:=by simp at H;omega
 subst e;rw[Re (by omega)];simp only[L,Nat.sub_self,Eg];refine⟨l (Ia _) U λg o R c _=>?_,l X V λg o R c J=>?_⟩;simp only[Ja (show ¬g<wr.1.size by omega),Ma (D g o R)];simp only[Ja (show ¬g<wr.1.size by omega),Ja (show ¬g<M by omega),Ma J]
def eR.own{w:eA}{b:Nat}{e:jA}{a:mC}{n cap:Nat}{u:List fB}(h:eR w b e (pA a n cap) n u)(K:yA u=n):cD w b a u:=by
 obtain⟨T,m,E,A,F,B⟩:=h;have M:yA m=n:=by rw[<-K,<-A,Xa]
 obtain⟨_,O⟩|⟨g,z,p,v,G,C,_,_,L,y⟩:=E.2;exact Ca (Nb.1 (by omega));simp only[iA.slice.injEq]at v;have H:=F g (by rw[v.1];rfl);have I:∀(l:List TV) i(q:i<yA l),(lF l)[i*4]?=bA (oA l[i].t.N)/\(lF l)[i*4+1]?=bA (zA l[i].t.L)/\(lF l)[i*4+2]?=bA (.slice l[i].a1 (yA l[i].t.M) l[i].c1)/\(lF l)[i*4+3]?=bA (.slice l[i].a2 (yA l[i].t.Z) l[i].c2):=by
  intro l;unfold lF;induction l with
  |nil=>intro i q;exact absurd q (by simp)
  |cons x r N=>
   intro i q;cases i with
   |zero=>simp
   |succ i=>
    have:=N i (by simpa using q);simp only[Xc,Sd,Mb,Ec];refine⟨?_,?_,?_,?_⟩;rw[show(i+1)*4=i*4+1+1+1+1 by omega,Ga,Ga,Ga,Ga];exact this.1;rw[show(i+1)*4+1=i*4+1+1+1+1+1 by omega,Ga,Ga,Ga,Ga];exact this.2.1;rw[show(i+1)*4+2=i*4+2+1+1+1+1 by omega,Ga,Ga,Ga,Ga];exact this.2.2.1;rw[show(i+1)*4+3=i*4+3+1+1+1+1 by omega,Ga,Ga,Ga,Ga];exact this.2.2.2
 have s:∀j,j<n*4->w.cell? (dB g j)=(lF m)[j]?:=λj J=>by
  rw[nB.cell (show nB w g p e from C) j,<-Yd,<-y,Jb J]
 refine La ⟨g,0,p,e,T,v.1,G,C,H,λi q=>?_⟩;have o:i<yA m:=by omega
 have D:u[i]=m[i].t:=by simp only[<-A,List.getElem_map]
 obtain⟨c,d,f,k⟩:=I m i o;rw[D];refine⟨m[i].a1,m[i].c1,m[i].a2,m[i].c2,?_,?_,?_,?_,(B i o).1,(B i o).2⟩;rw[Ya,s _ (by omega)];exact c;rw[Ya,s _ (by omega)];exact d;rw[Ya,s _ (by omega)];exact f;rw[Ya,s _ (by omega)];exact k
def mi(v:Int):∀k,EY v k=v / 2 ^ (8*k)
 |0=>by simp[EY]
 |k+1=>by
  rw[EY,mi v k,show 8*(k+1)=8*k+8 by omega,Int.pow_add,Int.ediv_ediv_of_nonneg (Int.pow_nonneg (by omega))];rfl
def kh(v:Int):∀n i,i<n->(bZ v n)[i]?=bA (EY v (n-1-i) % 256)
 |0,i,h=>absurd h (by omega)
 |n+1,0,_=>by simp[bZ]
 |n+1,i+1,h=>by
  rw[bZ,Ga,kh v n i (by omega)];congr 3;omega
theorem jI(n:Nat)(v:Int)(w:World)(J:n<=8):
 Calls prog 79 #[zA v,zA n] w λe F=>e=.returned (.string (pB n v))/\Below w.1.size w F:=by
 obtain⟨C,y,B⟩:∃C:Array Value,C.size=n/\(Instr.makeSlice 22 (zA n) (zA n)).run prog w=.ok (.slice (yB w.1.size) n n) (w.alloc (.cells C 5)):=by
  obtain⟨E,m,o,q,r⟩:=OA;have h:=run_make (P:=prog) w 22 5 E _ underlying22 m o .i64 .i64 (n:Int) (n:Int) (by omega) (by omega) (by rw[r];omega) (by omega);rw[q,Hd,Nat.mul_one]at h;exact⟨_,size_madeCells _ _,h⟩
 have t:cB (nB (w.alloc (.cells C 5)) w.1.size C 5):=heap_alloc_new _ _;go_enter func79,ntmps79;go_wp2;go_loopw [6,11] (λ_ c wr=>∃(k:Nat)(b:Array Value),k<=n/\c=zA k/\cB (nB wr w.1.size b 5)/\b.size=n/\cB (∀i,i<k->b[n-1-i]?=some (.int .u8 (EY v i % 256)))/\cB (Below w.1.size w wr)) (λ_ c _=>n-(intOf c).toNat)
 case atStart=>exact⟨0,C,by omega,rfl,t,y,λi l=>absurd l (by omega),zB⟩
 case round=>
  obtain⟨k,b,I,rfl,a,j,f,d⟩:=hrel;by_cases A:k<n
  .obtain ⟨p,K,g⟩:∃p:Nat,(n:Int)-1-(k:Int)=(p:Int)/\cB (p=n-1-k):=⟨n-1-k,by omega,rfl⟩
   have G:wr.cell? (dB w.1.size p)=some (b[p]'(by have:=g.o;omega)):=by rw[a.o.cell];exact Qc _
   have H:=a.o.free p;go_wp2;refine⟨⟨k+1,b.setIfInBounds p (.int .u8 (v / 2 ^ (8*k) % 256)),by omega,by go_num,a.o.set p _,by simp[j],?_,d.o.setCell (p:=(dB w.1.size p)) (Ia _) _⟩,by simp[intOf];omega⟩;intro i l;have D:=g.o;rw[Eb];split
   .rename_i e;have u:i=k:=by omega
    subst u;rw[Ma (by omega),mi]
   .rename_i e;exact f.o i (by omega)
  .have e:k=n:=by omega
   subst e;have z:(convert 22 9 (.slice (yB w.1.size) k k)).run prog wr=.ok (.string (pB k v)) wr:=by
    refine run_convert_bytes_arg wr 22 5 underlying22 underlying5 w.1.size 0 _ _ (bZ v k) (AN v k) (λi l=>?_) 9 underlying9;rw[a.o.cell,Ya];have s:=f.o (k-1-i) (by omega);rw[show k-1-(k-1-i)=i by omega]at s;rw[s];have x:=kh v k i (by omega);simp[List.getD,x]
   go_wp2;go_ret;exact⟨rfl,d.o⟩
def mI(v:Int)(w:eA):dF 165 #[zA v] w (oA (pB 8 v)):=by
 have c:=bB (jI 8 v w (by omega));generalize pB 8 v=N at *;go_enter func165,ntmps165;go_wp2_with fail;apply lC c.o;intro f a;have b:=bB a;clear a;go_wp2;go_ret;exact⟨rfl,b.o⟩
def LR(v:Int)(w:eA):dF 156 #[zA v] w (oA (pB 2 v)):=by
 have c:=bB (jI 2 v w (by omega));generalize pB 2 v=N at *;go_enter func156,ntmps156;go_wp2_with fail;apply lC c.o;intro f a;have b:=bB a;clear a;go_wp2;go_ret;exact⟨rfl,b.o⟩
def pH(v:Int)(w:eA):dF 26 #[zA v] w (oA (pB 1 v)):=by
 have c:=bB (jI 1 v w (by omega));generalize pB 1 v=N at *;go_enter func26,ntmps26;go_wp2_with fail;apply lC c.o;intro f a;have b:=bB a;clear a;go_wp2;go_ret;exact⟨rfl,b.o⟩
def OD{a b:jB}(h:a=b):Ending.returned (oA a)=.returned (oA b):=by rw[h]
def UZ(p:jB)(w:eA)(d:p.size<=maxLen):
 dF 180 #[oA p] w (oA (uD p)):=by
 by_cases h:1<=p.size/\p.size<=60000
 .have i:bC (p.size:Int) 1 60000=dA:=by unfold bC;simp;omega
  have E:cB (uD p=pB 4 p.size++pB 4 (cJ p:Nat)++p):=Ma h;have k:=gB 4 (p.size:Int);have l:=gB 4 ((cJ p:Nat):Int);have m:=ZQ p;have n:=h.2;have g:cB (p.size<=maxLen):=d;clear d h;go_enter func180,ntmps180;go_wp2_with(go_at_call 91;apply dR (dE _ _ _ _));refine lC (lD 4 (p.size:Int) _ (by omega) (by omega) (by omega)) ?_;intro o a;go_wp2_with fail;apply dR (MQ p _ g.o);go_wp2_with fail;refine lC (lD 4 ((cJ p:Nat):Int) _ (by omega) (by omega) (by omega)) ?_;intro j b;generalize pB 4 (p.size:Int)=A at *;generalize pB 4 ((cJ p:Nat):Int)=B at *;have f:cB (uB w j):=vB a b;clear a b;go_wp2;go_ret;exact⟨OD E.o.symm,f.o⟩
 have i:bC (p.size:Int) 1 60000=cA:=by unfold bC;simp;omega
 have E:cB (uD p=kA):=Ja h;go_enter func180,ntmps180;go_wp2_with(go_at_call 91;apply dR (dE _ _ _ _));go_ret;exact⟨OD E.o.symm,iD⟩
def QW:(prog.info? 137).map (λi=>(i.zero,i.size,i.bytes))=bA (bA (.agg #[zA 0,oA kA,oA kA,zA 0]),4,48):=by kernel_rfl
