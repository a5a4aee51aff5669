import Derived.Test.YtcmdjimlmnaojaaGreatDoorJ07
import Derived.Deep.RegionHeld3
set_option maxRecDepth 100000
set_option maxHeartbeats 2000000
set_option linter.defProp false
open Option renaming none->aA,some->cA
open Bool renaming true->eA,false->dA
open ByteArray renaming empty->lA
open List renaming length->zA
namespace Go.Proofs.YtcmdjimlmnaojaaGreatDoor
open Go renaming World->fA,TypeId->kA,Value->jA
open Value renaming slice->qA,string->pA
open Obj renaming cells->xA
open Go.RowKit Tryz
theorem zM{D:Array Oper}{d:List Oper}{o:Oper}{a:Act}{Q:Exit->Act->fA->Prop}{w:fA}(r:o.guard=aA)(s x:Operand){m T:kA}{z:jA}{j b:Nat}
(K:o.op=.call { callee:=.builtin .append,args:=#[s,x],argTypes:=#[m,m] })(N:prog.underlying m=cA (.slice T))(y:(prog.info? T).map (λi=>(i.zero,i.size,i.bytes))=cA (cA z,j,b))(P:z.cells.size=j)(E:0<j)(G:b<=100)
{B n:Nat}{v:jA}{A:List jA}{cs:Array jA}(M:a.eval s=v)(C:w.ownsRow B T j v n A){p:Nat}(O:a.eval x=qA (vB p) 1 1)(L:w.1.size=p)(H:cs.size=j)(F:∀u∈cs.toList,u.oneCell'=eA)(J:n<=5000000)(V:B<=w.1.size)
(h:∀g c l,cB (l.ownsRow B T j (qA (vB g) (n+1) c) (n+1) (A++cs.toList))->cB (fB (λi=>B<=i/\v.ownBlock=cA i) w l)->cB (v.ownBlock=cA g\/w.1.size<=g)->wpList prog D Q d (a.put o.dst (qA (vB g) (n+1) c)) l):
 wpList prog D Q (o::d) a (w.alloc (xA cs T)):=by
 subst L;obtain⟨i,y,R,S,U⟩:=info_parts y;have I:(n+1)*b<=140737488355328:=Ua (Hf (Nat.add_le_add_right J 1) G) (by decide);refine wpList_append_lies _ r s x _ K B T i z j b N y R S U P E v n A M (fA.ownsRow.alloc C _) (eB w.1.size 0) 1 1 cs.toList O (by simpa using H) (by
  have:=fA.news_of_block (cs:=cs) (t:=T) (fr:=(0,0)) (heap_alloc_new w (xA cs T));simpa using this) F (by omega) (by simp[maxLen];omega) I (by simp;omega) (w.1.size+1) (by simp) ?_
 intro g c l k f q _;exact h g c l k ((fB.of (zF w (xA cs T))).trans' ((fB.grown f).mono λi _ e=>⟨(C.lt i e).1,e⟩)) (q.imp_right λe=>by rw[e];simp)
def iQ{k:Array Oper}{b:List Oper}{o:Oper}{a:Act}{Q:Exit->Act->fA->Prop}{w:fA}(m:o.guard=aA)(s x:Operand){f T:kA}{z:jA}{c d:Nat}
(E:o.op=.call { callee:=.builtin .append,args:=#[s,x],argTypes:=#[f,f] })(I:prog.underlying f=cA (.slice T))(A:(prog.info? T).map (λi=>(i.zero,i.size,i.bytes))=cA (cA z,c,d))(K:z.cells.size=c)(q:0<c)(y:d<=100)
{B n:Nat}{v:jA}{l:List jA}{cs:Array jA}(H:a.eval s=v)(G:w.ownsRow B T c v n l){p:Nat}(J:a.eval x=qA (vB p) 1 1)(F:w.1.size=p)(C:cs.size=c)(r:∀u∈cs.toList,u.oneCell'=eA)(D:n<=5000000)(t:B<=w.1.size)
(h:∀g e j,cB (j.ownsRow B T c (qA (vB g) (n+1) e) (n+1) (l++cs.toList))->cB (fB (λi=>B<=i/\v.ownBlock=cA i) w j)->wpList prog k Q b (a.put o.dst (qA (vB g) (n+1) e)) j):
 wpList prog k Q (o::b) a (w.alloc (xA cs T)):=by grind [zM]
def rD{P:Program}{f:FuncId}{args:Array jA}{w:fA}{E:Ending}{Q:Ending->fA->Prop}(h:Calls P f args w λe a=>e=E/\a=w)(k:Q E w):Calls P f args w Q:=h.mono (by rintro _ _ ⟨rfl,rfl⟩;exact k)
def TY{w b:fA}{g:Nat}{c d e f:jA}(h:b.heap[g]?=w.heap[g]?)(q:w.cell? (eB g 0)=cA c/\w.cell? (eB g 1)=cA d/\w.cell? (eB g 2)=cA e/\w.cell? (eB g 3)=cA f):b.cell? (eB g 0)=cA c/\b.cell? (eB g 1)=cA d/\b.cell? (eB g 2)=cA e/\b.cell? (eB g 3)=cA f:=by
 simp only[fA.cell?_of_block (a:=(eB g _)) h];exact q
def tZ{wr c:fA}{N B n g:Nat}{t E:kA}{cs:Array jA}{h:List jA}{v a:jA}(k:jB wr N cs t)(f:fB (λj=>B<=j/\v.ownBlock=cA j) wr c)(d:c.ownsRow B E g a n h)(m:N<B)(i:Nat):
 jB (c.setCell (eB N i) a) N (cs.setIfInBounds i a) t/\(c.setCell (eB N i) a).ownsRow B E g a n h/\fB (λj=>j=N\/B<=j/\v.ownBlock=cA j) wr (c.setCell (eB N i) a):=
 ⟨(f.blk k (λe=>by omega)).set i a,((fB.refl (·=N) c).setCell (Ca rfl) i _).row d (λb l e=>by have:=(d.lt b l).1;omega),(f.mono λi _ e=>La e).trans' (((fB.refl (·=N) c).setCell (Ca rfl) i a).mono λi _ e=>Ca e)⟩
def JF{V:Array Oper}{o:Oper}{a:Act}{K:Act->fA->Prop}{Q:Exit->Act->fA->Prop}{E:Prop}{w:fA}(q:o.guard=aA)(s x:Operand){l T:kA}{z:jA}{f b:Nat}
(J:o.op=.call { callee:=.builtin .append,args:=#[s,x],argTypes:=#[l,l] })(N:prog.underlying l=cA (.slice T))(r:(prog.info? T).map (λi=>(i.zero,i.size,i.bytes))=cA (cA z,f,b))(P:z.cells.size=f)(C:0<f)(F:b<=100)
{B n:Nat}{v:jA}{y:List jA}{cs:Array jA}(M:a.eval s=v)(A:w.ownsRow B T f v n y){p:Nat}(O:a.eval x=qA (vB p) 1 1)(L:w.1.size=p)(G:cs.size=f)(D:∀u∈cs.toList,u.oneCell'=eA)(I:n<=1000000000)(W:B<=w.1.size)
(h:∀g c k,cB (k.ownsRow B T f (qA (vB g) (n+1) c) (n+1) (y++cs.toList))->cB (fB (λi=>B<=i/\v.ownBlock=cA i) w k)->cB (v.ownBlock=cA g\/w.1.size<=g)->K (a.put o.dst (qA (vB g) (n+1) c)) k):
 if Region.wanted o (yielded V a.tmps)=eA then Oper.wp prog o a (w.alloc (xA cs T)) K Q else E:=by
 subst L;obtain⟨i,r,R,S,U⟩:=info_parts r;have H:(n+1)*b<=140737488355328:=Ua (Hf (Nat.add_le_add_right I 1) F) (by decide);refine step_append_lies _ q s x _ J B T i z f b N r R S U P C v n y M (fA.ownsRow.alloc A _) (eB w.1.size 0) 1 1 cs.toList O (by simpa using G) (by
  have:=fA.news_of_block (cs:=cs) (t:=T) (fr:=(0,0)) (heap_alloc_new w (xA cs T));simpa using this) D (by omega) (by simp[maxLen];omega) H (by simp;omega) (w.1.size+1) (by simp) ?_
 intro g c k j d m _;exact h g c k j ((fB.of (zF w (xA cs T))).trans' ((fB.grown d).mono λi _ e=>⟨(A.lt i e).1,e⟩)) (m.imp_right λe=>by rw[e];simp)
def fS{Y:Array Oper}{o:Oper}{a:Act}{K:Act->fA->Prop}{Q:Exit->Act->fA->Prop}{E:Prop}{w:fA}(v:o.guard=aA)(s x:Operand){p T:kA}{z:jA}{e d:Nat}
(N:o.op=.call { callee:=.builtin .append,args:=#[s,x],argTypes:=#[p,p] })(R:prog.underlying p=cA (.slice T))(y:(prog.info? T).map (λi=>(i.zero,i.size,i.bytes))=cA (cA z,e,d))(U:z.cells.size=e)(D:0<e)(J:d<=100)
{B j n r:Nat}{A:List jA}(P:a.eval s=qA (vB j) n r)(O:w.ownsRow B T e (qA (vB j) n r) n A){q:nC}{m C:Nat}(b:List jA)(S:a.eval x=qA q m C)(L:zA b=m*e)(l:jS w q m b)(t:∀u∈b,u.oneCell'=eA)(M:n+m<=1000000000)(I:B<=w.1.size)
(h:∀g c f,f.ownsRow B T e (qA (vB g) (n+m) c) (n+m) (A++b)->Below B w f->(∀k,k<w.1.size->k≠j->f.heap[k]?=w.heap[k]?)->(g=j\/g=w.1.size)->K (a.put o.dst (qA (vB g) (n+m) c)) f):
 if Region.wanted o (yielded Y a.tmps)=eA then Oper.wp prog o a w K Q else E:=by
 obtain⟨i,y,V,W,X⟩:=info_parts y;exact dJ w v s x _ N B T i z e d R y V W X U D j n r A P O q m C b S L l t (by simp[maxLen];omega) (Ua (Hf M J) (by decide)) I λg c f t F G _ H _=>h g c f t F G H
def uY:(prog.info? 184).map (λi=>(i.zero,i.size,i.bytes))=cA (cA (.agg #[pA ⟨#[]⟩,aB 0]),2,24):=by kernel_rfl
def EY:(prog.info? 134).map (λi=>(i.zero,i.size,i.bytes))=cA (cA (.agg #[pA ⟨#[]⟩,aB 0]),2,24):=by kernel_rfl
def zP{W:fA}{B:Nat}{e:kA}{b:Nat}{v:jA}{n:Nat}{i:List jA}(h:W.ownsRow B e b v n i):∃a c,v=qA a n c:=by
 obtain⟨rfl,rfl⟩|⟨g,d,f,rfl,_⟩:=h.2;exact ⟨aA,0,rfl⟩;exact ⟨_,_,rfl⟩
def aCu:(prog.info? 175).map (λi=>(i.zero,i.size,i.bytes))=cA (cA (.agg #[pA lA,pA lA]),2,32):=by kernel_rfl
def ey:(prog.info? 93).map (λi=>(i.zero,i.size,i.bytes))=cA (cA (.agg #[qA aA 0 0,aB 0]),2,32):=by kernel_rfl
def LQ(a:List Nat):List Int:=a.map fun(r:Nat)=>(r:Int)
def QQ(a:List Nat):zA (LQ a)=zA a:=by simp[LQ]
def zu(a:List Nat)(r:Nat):LQ (a++[r])=LQ a++[(r:Int)]:=by simp[LQ]
def aGr(r:Nat)(h:¬r<32):yB (r:Int) 127 159=BS r:=by
 unfold yB BS;rw[Qb];simp;omega
def uv(l:List Nat)(k:Nat)(h:k<zA l):l.any BS=((l.take k).any BS||(BS l[k] ||(l.drop (k+1)).any BS)):=by
 have e:=Za k l;rw[Cb h]at e;rw[<-List.any_cons,<-Tf,e]
def LH(s:pB)(w:fA)(hs:s.size<=1000000000):
 cF 170 #[pA s] w (aB (fP s:Nat)):=by
 obtain⟨G,K,Y,Z,I⟩:=aCw;have O:cB _:=K;clear K;go_enter func170,ntmps170;go_wp2;go_loopw [3,4,5,6] (λm x _ _ wr=>∃(p:Nat)(a:List Nat)(F:nC)(M:Nat),p<=s.size/\zA a<=p/\cB (AM s p a/\∀i(h:i<zA a),a[i]<=1114111)/\x=aB p/\m=qA F (zA a) M/\cB (wr.ownsRow w.1.size 3 1 (qA F (zA a) M) (zA a) ((LQ a).map (jA.int .i64)))/\xB w wr) (λ_ x _ _ _=>s.size-(intOf x).toNat)
 case atStart=>
  exact⟨0,[],_,_,Oa _,Oa _,⟨AM.start s,λi h=>absurd h (by simp)⟩,rfl,rfl,fA.ownsRow_made w #[] 0 (Ia _) (by simp[maxLen]) (by simp),bC⟩
 case round=>
  obtain⟨p,a,F,M,m,m,B,rfl,rfl,f,c⟩:=hrel;have m:=c.size;by_cases A:p<s.size
  .have hz:(s.extract p s.size).size=s.size-p:=by simp
   have d:=λW=>ZU (s.extract p s.size) W (by omega) (by unfold maxLen;omega);rw[aLe]at d;by_cases y:Utf8.decode s p=(65533,1)
   .rw[Ma y]at d;have v:cB (∀W,rI 227 #[pA (s.extract p s.size)] W (.tuple #[aB 0,aB 0])):=d;have D:cB _:=B.o.1.bad A y;clear d y hz;go_wp2_with fail;apply kO (v.o _);go_wp2;go_ret;exact⟨uF (by rw[D.o];rfl),c⟩
   rw[Ja y]at d;have m:=fW s p;have m:=JU s p A y;have J:=oY s p;have S:cB (AM s (p+(Utf8.decode s p).2) (a++[(Utf8.decode s p).1])):=B.o.1.step A y;generalize (Utf8.decode s p).1=R at *;generalize (Utf8.decode s p).2=N at *;have v:cB _:=d;have m:((N:Int)==0)=dA:=by simp;omega
   obtain⟨V,m⟩:=J;clear d y hz;go_wp2_with fail;apply kO (v.o _);go_wp2_with(at_builtin;refine wpList_append_lies _ rfl _ _ _ rfl w.1.size 3 G _ 1 8 underlying26 O.o Y Z I rfl (by omega) (qA F (zA a) M) (zA a) ((LQ a).map (jA.int .i64)) rfl (by exact hC f.o bC) (eB wr.1.size 0) 1 1 [aB (R:Int)] rfl rfl (by exact fA.news_of_block (heap_alloc_new _ _)) (by simp[jA.oneCell']) (by omega) (by simp[maxLen];omega) (by omega) (by simp;omega) (wr.1.size+1) (by simp) ?_;intro I G J l n m m);have T:xB w J:=(aC c bC).grown n (by simp;omega) (λq O=>by
    obtain⟨U,_⟩|⟨g,cap,m,U,m,_⟩:=f.o.2;rw[U]at O;simp[jA.ownBlock]at O;rw[U]at O;simp[jA.ownBlock]at O;omega)
   have X:(LQ a).map (jA.int .i64)++[jA.int .i64 (R:Int)]=(LQ (a++[R])).map (jA.int .i64):=by simp[zu]
   have z:zA (a++[R])=zA a+1:=by simp
   rw[X,<-z]at l;refine⟨⟨p+N,a++[R],vB I,G,by omega,by rw[z];omega,⟨S.o,λi m=>?_⟩,by go_num,by rw[z],l,T⟩,by simp[intOf];omega⟩;by_cases e:i<zA a
   .rw[Ve e];exact B.o.2 i e
   rw[Re (by omega)];simp;exact V
  have D:cB _:=B.o.1.done (by omega);by_cases t:128<zA a
  .have m:cB (fP s=43):=by show _=_;rw[D.o,SA,Ma t]
   go_wp2;go_ret;exact⟨uF (by rw[m.o];rfl),c⟩
  have m:cB (fP s=if a.any BS=eA then 44 else 0):=by show _=_;rw[D.o,SA,Ja t]
  have I:cB (MX wr F (LQ a)):=ia (by rw[QQ];exact f.o);have J:cB _:=B.o.2;clear f B D;go_wp2;go_loop [8,35] (λ_ i=>∃k:Nat,k<=zA a/\i=aB k/\cB ((a.take k).any BS=dA)) (λ_ i=>zA a-(intOf i).toNat)
  case atStart=>exact⟨0,Oa _,rfl,by show _=_;simp⟩
  case round=>
   obtain⟨k,G,rfl,G⟩:=hrel;by_cases j:k<zA a
   .obtain ⟨b,o,rfl,hb,c0⟩:=I.o.at (i:=k) (by rw[QQ];exact j)
    have I:=J.o k j;have I:(LQ a)[k]'(by rw[QQ];exact j)=((a[k]:Nat):Int):=by simp[LQ]
    rw[I]at c0;have r:cB (BS a[k]=eA->fP s=44):=λh=>by rw[m.o,uv a k j,h];simp
    have Q:cB (BS a[k]=dA->(a.take (k+1)).any BS=dA):=λh=>by rw[Pa j,Tf,G.o];simp[h]
    have P:=aGr a[k];clear I;generalize a[k]=R at *;by_cases H:R<32
    .have E:cB (BS R=eA):=by show _=_;simp[BS,H]
     clear P;go_wp2;go_ret;exact⟨uF (by rw[r.o E.o];rfl),c⟩
    have C:cB _:=P H;clear P;by_cases I:BS R=eA
    .have u:cB _:=C.o.trans I;have L:cB _:=I;clear I;go_wp2_with fail;apply jC (uD _ _ _ _);intro w1 h;rw[u.o];replace h:=h.symm;subst h;go_wp2;go_ret;exact⟨uF (by rw[r.o L.o];rfl),c⟩
    have L:cB (BS R=dA):=by show _=_;simpa using I
    have u:cB _:=C.o.trans L.o;clear I;go_wp2_with fail;apply jC (uD _ _ _ _);intro w1 h;rw[u.o];replace h:=h.symm;subst h;go_wp2;exact⟨⟨k+1,by omega,by go_num,Q.o L.o⟩,by simp[intOf];omega⟩
   have h:cB (fP s=0):=by
    show _=_;have:=G.o;rw[Ra (by omega)]at this;rw[m.o,this];rfl
   go_wp2;go_ret;exact⟨uF (by rw[h.o];rfl),c⟩
def rC(a:List cC):List jA:=a.flatMap λx=>[pA x.N,pA x.V]
def qF(a b:List cC):rC (a++b)=rC a++rC b:=by simp[rC]
def hI(a:List cC):zA (rC a)=zA a*2:=by
 induction a with
 |nil=>rfl
 |cons f r b=>simp[rC]at *;omega
def EX:∃i,prog.info? 175=cA i/\i.zero=cA (.agg #[pA lA,pA lA])/\i.size=2/\i.bytes=32:=by
 obtain⟨i,b,a⟩:=Wb.1 qS;simp only[Dc]at a;exact⟨i,b,a.1,a.2.1,a.2.2⟩
def yt(W:fA)(x:Obj)(cs:Array jA)(t:kA):∀j u,cs.toList[j]?=cA u->((W.alloc x).alloc (xA cs t)).cell? (((eB (W.1.size+1) 0):Addr).add j)=cA u:=
 fA.news_of_block (fr:=(0,0)) (by have h:=heap_alloc_new (W.alloc x) (xA cs t);simpa using h)
def fo(l:cC):sS l=l.V.toList.isEmpty:=by simp_all[sS]
def oS(b:List cC):∀u∈rC b,u.oneCell'=eA:=by
 intro u a;simp only[rC,Ig,Lb,Ed,Bf]at a;obtain⟨f,_,rfl|rfl⟩:=a<;>rfl
theorem aCj{w:fA}{g:Nat}{a:List cC}(h:∀j u,(rC a)[j]?=cA u->w.cell? (eB g j)=cA u)(p:Nat):∀j u,(rC (a.drop p))[j]?=cA u->w.cell? (eB g (p*2+j))=cA u:=by
 intro j u b;refine h _ _ ?_;by_cases d:p<=zA a
 .have e:rC a=rC (a.take p)++rC (a.drop p):=by rw[<-qF,Za]
  have c:zA (rC (a.take p))=p*2:=by rw[hI,Hb];omega
  rw[e,Uc (by omega),c,Nat.add_sub_cancel_left];exact b
 rw[Yb (by omega)]at b;simp[rC]at b
theorem nc{a:List cC}{p:Nat}:∀(j:Nat)(u:jA),(rC (a.take p))[j]?=cA u->(rC a)[j]?=cA u:=by
 intro j u b;have e:rC a=rC (a.take p)++rC (a.drop p):=by rw[<-qF,Za]
 have c:j<zA (rC (a.take p)):=(Pb.1 b).1;rw[e,Pe c];exact b
def vK{w:fA}{B:Nat}{e:kA}{g i:Nat}{a:List cC}(h:w.ownsRow B e 2 (qA (vB g) (zA a) i) (zA a) (rC a)):zA a<=i/\g<w.1.size/\B<=g/\∀j u,(rC a)[j]?=cA u->w.cell? (eB g j)=cA u:=by
 obtain⟨b,_⟩|⟨p,f,d,b,l,k,m,_,_,o⟩:=h.2;simp at b;simp only[jA.slice.injEq,Qa,Addr.mk.injEq,Cc]at b;obtain⟨rfl,_,rfl⟩:=b;refine⟨m,bB k,l,λj u c=>?_⟩;rw[cell_of_row w g j d _ _ k,<-Yd];rw[<-o]at c;have n:=(Pb.1 c).1;rw[Hb]at n;rw[Jb (by omega)]at c;exact c
def jx{w:fA}{g:Nat}{a:List cC}(h:∀j u,(rC a)[j]?=cA u->w.cell? (eB g j)=cA u)(p:Nat):jS w (vB g) p (rC (a.take p)):=by grind [rC,jS,MZ,nc]
def jy{w:fA}{g b:Nat}{a:List cC}(h:∀j u,(rC a)[j]?=cA u->w.cell? (eB g j)=cA u)(p:Nat)(c:zA a<=b):jS w (if b=p then vB g else cA (eB g (p*2))) (zA a-p) (rC (a.drop p)):=by grind [rC,jS,MZ,aCj]
def ZW{w:fA}{g:Nat}{x y:jA}{t:kA}(h:w.heap[g]?=cA (xA #[x,y] t (0,0))):jS w (vB g) 1 [x,y]:=
 La ⟨_,rfl,fA.news_of_block (cs:=#[x,y]) h⟩
def jY{W w:fA}{g:Nat}{a:List cC}(h:∀j u,(rC a)[j]?=cA u->W.cell? (eB g j)=cA u)(c:g<W.1.size)(b:xB W w):∀j u,(rC a)[j]?=cA u->w.cell? (eB g j)=cA u:=
 λj u d=>(b.cell c).trans (h j u d)
def ub(W:fA)(x y:Obj):((W.alloc x).alloc y).drew.heap[W.1.size+1]?=cA y:=by
 have h:=heap_alloc_new (W.alloc x) y;have e:(W.alloc x).1.size=W.1.size+1:=by simp
 rw[e]at h;exact h
def uc(W:fA)(x y:Obj):((W.alloc x).alloc y).drew.heap[W.1.size]?=cA x:=by
 have h:=heap_alloc_new W x;have a:=(zF (W.alloc x) y).block W.1.size (by simp);exact a.trans h
def aLw(W:fA)(t:kA):(W.alloc (xA #[] t)).drew.ownsRow W.1.size t 2 (qA (vB W.1.size) 0 0) 0 []:=
 ⟨rfl,La ⟨W.1.size,0,#[],rfl,Ia _,heap_alloc_new _ _,Ia _,Oa _,rfl,rfl⟩⟩
def aLx(W:fA)(t:kA)(x:Obj):((W.alloc (xA #[] t)).alloc x).drew.ownsRow W.1.size t 2 (qA (vB W.1.size) 0 0) 0 []:=
 ⟨rfl,La ⟨W.1.size,0,#[],rfl,Ia _,uc _ _ _,Ia _,Oa _,rfl,rfl⟩⟩
def aLy(W:fA)(t:kA)(x:Obj):((W.alloc x).alloc (xA #[] t)).drew.ownsRow W.1.size t 2 (qA (vB (W.1.size+1)) 0 0) 0 []:=
 ⟨rfl,La ⟨W.1.size+1,0,#[],rfl,by omega,ub _ _ _,Ia _,Oa _,rfl,rfl⟩⟩
def jV{s:pB}(h:¬YU s):PN s=dA:=Ub h
def VK{s:pB}(h:YU s):PN s=eA:=Ac h
def ZQ(s:pB)(w:fA)(A:s.size<=maxLen):
 rI 172 #[pA s] w (.bool (PN s)):=by
 unfold maxLen at A;by_cases b:1<=s.size/\s.size<=64
 .have c:yB (s.size:Int) 1 64=eA:=by simp[yB];omega
  have g:cB _:=c;clear c;have t:0<s.size:=by omega
  have o:=b.2;have x:s[0].toNat<256:=s[0].toNat_lt;have a:cB _:=bV s 0 t;by_cases q:48<=s[0].toNat/\s[0].toNat<=57
  .have E:cB (PN s=dA):=jV (λh=>by
    have:=h.2.2 0 t;unfold BA dY at this;rw[<-a.o]at this;omega)
   have d:¬((s[0].toNat:Int)<48):=by omega
   have z:¬((57:Int)<(s[0].toNat:Int)):=by omega
   clear q b;go_enter func172,ntmps172;go_wp2_with fail;apply jC (uD _ _ _ _);intro u C;rw[g.o];replace C:=C.symm;subst C;go_wp2;go_ret;exact⟨oB E.o.symm,rfl⟩
  .have v:cB (¬(48<=zC s 0/\zC s 0<=57)):=by show ¬_;rw[<-a.o];exact q
   have d:(s[0].toNat:Int)<48\/(57:Int)<(s[0].toNat:Int):=by omega
   clear q b;go_enter func172,ntmps172;go_wp2_with fail;apply jC (uD _ _ _ _);intro u C;rw[g.o];replace C:=C.symm;subst C;go_wp2;all_goals
    go_loop [3,4] (λi _=>∃j:Nat,j<=s.size/\i=aB j/\cB (∀k,k<j->BA s k)) (λi _=>s.size-(intOf i).toNat)
    case atStart=>exact⟨0,Oa _,rfl,λk r=>absurd r (by omega)⟩
    case round=>
     obtain⟨j,G,rfl,m⟩:=hrel;by_cases f:j<s.size
     .have y:s[j].toNat<256:=s[j].toNat_lt;have l:cB _:=bV s j f;have n:cB (j=0->¬(48<=s[j].toNat/\s[j].toNat<=57)):=λe=>by subst e;rw[l.o];exact v.o
      clear d x;by_cases D:s[j].toNat=95
      .have p:((s[j].toNat:Int) != 95)=dA:=by simp;omega
       go_wp2;all_goals
        refine⟨⟨j+1,by omega,by go_num,?_⟩,by simp[intOf];omega⟩;show ∀k,_;intro k r;by_cases e:k=j
        .subst e;unfold BA dY;rw[<-l.o];omega
        exact m.o k (by omega)
      have p:((s[j].toNat:Int) != 95)=eA:=by simp;omega
      go_wp2;all_goals first
       |(go_ret
         refine⟨oB (jV ?_).symm,rfl⟩;intro h;have:=h.2.2 j f;unfold BA dY NX at this;rw[<-l.o]at this;omega)
       |(refine⟨⟨j+1,by omega,by go_num,?_⟩,by simp[intOf];omega⟩
         show ∀k,_;intro k r
         by_cases e:k=j
         .subst e
          have:=n.o;unfold BA dY NX;rw[<-l.o];omega
         exact m.o k (by omega))
       |(exfalso;rename_i B;simp at B;omega)
     go_wp2;go_ret;exact⟨oB (VK ⟨by omega,o,λi F=>m.o i (by omega)⟩).symm,rfl⟩
 have c:yB (s.size:Int) 1 64=dA:=by simp[yB];omega
 have g:cB _:=c;have E:cB _:=jV (λh=>b ⟨h.1,h.2.1⟩);clear c b;go_enter func172,ntmps172;go_wp2_with fail;apply jC (uD _ _ _ _);intro u C;rw[g.o];replace C:=C.symm;subst C;go_wp2;go_ret;exact⟨oB E.o.symm,rfl⟩
def TA{P:Program}(w:fA){o:Oper}{a:Act}{K:Act->fA->Prop}{Q:Exit->Act->fA->Prop}(v:o.guard=aA)(s x:Operand)(t:kA)
(O:o.op=.call { callee:=.builtin .append,args:=#[s,x],argTypes:=#[t,t] })
(base:Nat)(e:kA)(i:TypeInfo)(z:jA)(b f:Nat)(S:P.underlying t=cA (.slice e))(M:P.info? e=cA i)(U:i.zero=cA z)
(p:i.size=b)(G:i.bytes=f)(I:z.cells.size=b)(H:0<b)
(r n D:Nat)(J:List jA)(R:a.eval s=qA (vB r) n D)(y:w.ownsRow base e b (qA (vB r) n D) n J)
(C:nC)(m c:Nat)(d:List jA)(T:a.eval x=qA C m c)(N:zA d=m*b)(A:jS w C m d)(L:∀u∈d,u.oneCell'=eA)
(F:n+m<=maxLen)(j:(n+m)*f<=140737488355328)(l:base<=w.1.size)
(h:∀g q B,B.ownsRow base e b (qA (vB g) (n+m) q) (n+m) (J++d)->Below base w B->(∀k,k<w.1.size->k≠r->B.heap[k]?=w.heap[k]?)->base<=g->(g=r\/g=w.1.size)->g<B.1.size->K (a.put o.dst (qA (vB g) (n+m) q)) B):
 Oper.wp P o a w K Q:=by
 have V:Region.wanted o (yielded #[] a.tmps)=eA:=by simp[Region.wanted,v]
 have:=dJ (P:=P) w (ops:=#[]) (E:=False) (Q:=Q) v s x t O base e i z b f S M U p G I H r n D J R y C m c d T N A L F j l h;rwa [Ma V]at this
structure TV where
 t:gB
 a1:nC
 c1:Nat
 a2:nC
 c2:Nat
def iF(a:List TV):List jA:=a.flatMap λy=>[pA y.t.N,aB y.t.L,qA y.a1 (zA y.t.M) y.c1,qA y.a2 (zA y.t.Z) y.c2]
def YB(a b:List TV):iF (a++b)=iF a++iF b:=by simp[iF]
def aAt(w:fA)(b:Nat)(T:Nat->Nat)(a:List TV):Prop:=
 ∀i(h:i<zA a),zE w b T (2*i+1) a[i].a1 a[i].t.M/\zE w b T (2*i+2) a[i].a2 a[i].t.Z
def iS(w:fA)(b:Nat)(e:kA)(v:jA)(n:Nat)(a:List gB):Prop:=
 ∃T ys,w.ownsRow b e 4 v n (iF ys)/\ys.map (·.t)=a/\(∀g,v.ownBlock=cA g->T g=0)/\aAt w b T ys
def iS.nil(w:fA)(b:Nat)(e:kA):iS w b e (qA aA 0 0) 0 []:=
 ⟨λ_=>0,[],fA.ownsRow_nil _ _ _ _,rfl,λ_ _=>rfl,λi h=>absurd h (by simp)⟩
def iS.row{w:fA}{b:Nat}{e:kA}{v:jA}{n:Nat}{i:List gB}(h:iS w b e v n i):∃a c,v=qA a n c:=by
 obtain⟨_,_,h,_⟩:=h;obtain⟨rfl,rfl⟩|⟨g,d,f,rfl,_⟩:=h.2;exact ⟨aA,0,rfl⟩;exact ⟨_,_,rfl⟩
def iS.turn{w f:fA}{S:Nat->Prop}{b:Nat}{e:kA}{v:jA}{n:Nat}{q:List gB}(h:iS w b e v n q)(p:fB S w f)(l:∀g,S g->g<b):iS f b e v n q:=by
 obtain⟨T,t,j,r,s,k⟩:=h;refine⟨T,t,p.row j (λg a e=>by have:=(j.lt g a).1;have:=l g e;omega),r,s,λi m=>?_⟩;have o:∀g,g<w.1.size->b<=g->f.heap[g]?=w.heap[g]?:=λg a c=>p.block g a (λe=>by have:=l g e;omega);exact⟨(k i m).1.keep λg a c d=>⟨o g a c,d⟩,(k i m).2.keep λg a c d=>⟨o g a c,d⟩⟩
def iS.snoc{wr w4 w6:fA}{b M d p k:Nat}{e:kA}{v:jA}{T:Nat->Nat}{ys:List TV}{S:List gB}{t:gB}{y A:nC}{P Q:Nat}
(x:w6.ownsRow b e 4 (qA (vB d) (k+1) p) (k+1) (iF ys++[pA t.N,aB t.L,qA y (zA t.M) P,qA A (zA t.Z) Q]))
(N:ys.map (·.t)=S)(L:zA ys=k)(K:∀g,v.ownBlock=cA g->T g=0)(m:aAt wr b T ys)(h:b<=wr.1.size)(X:wr.1.size<=M)
(s:∀g,g<wr.1.size->b<=g->v.ownBlock≠cA g->w6.heap[g]?=wr.heap[g]?)(I:∀g,wr.1.size<=g->g<w4.1.size->w6.heap[g]?=w4.heap[g]?)
(U:lD w4 wr.1.size y t.M)(D:∀g o,y=cA (eB g o)->g<M)(V:lD w4 M A t.Z)
(G:(v.ownBlock=cA d/\d<wr.1.size)\/w4.1.size<=d)(W:wr.1.size<=w4.1.size)(Y:M<=w4.1.size):iS w6 b e (qA (vB d) (k+1) p) (k+1) (S++[t]):=by
 have l:∀{B n:Nat}{z:Nat->Nat}{a:nC}{O:List kB},wr.1.size<=B->lD w4 B a O->(∀g o,a=cA (eB g o)->B<=g->g<w4.1.size->z g=n)->zE w6 b z n a O:=by
  intro B n z a O h h q;obtain h|⟨g,o,C,ty,rfl,E,f,F⟩:=h;exact Ca h;have w:=bB f;have u:=I g (by omega) w;have Z:∀j,w6.cell? (eB g j)=w4.cell? (eB g j):=λj=>fA.cell?_of_block u;exact La ⟨g,o,C,ty,rfl,by omega,q g o rfl E w,u.trans f,λi H=>by simp only[Z];exact F i H⟩
 refine⟨λg=>if g<wr.1.size then T g else if g<M then 2*k+1 else if g<w4.1.size then 2*k+2 else 0,ys++[⟨t,y,P,A,Q⟩],?_,?_,?_,?_⟩;rw[YB];exact x;rw[Ld,N];rfl
 .intro g c;simp only[jA.ownBlock,Qa]at c;subst c;obtain⟨h,J⟩|h:=G
  .simp only[Ma J];exact K _ h
  simp only[Ja (show ¬d<wr.1.size by omega),Ja (show ¬d<M by omega),Ja (show ¬d<w4.1.size by omega)]
 intro i H;by_cases r:i<zA ys
 .rw[Ve r];obtain⟨h,G⟩:=m i r;refine⟨h.keep λg c m q=>⟨s g c m (λe=>by have:=K g e;omega),by simp only[Ma c];exact q⟩,G.keep λg c m q=>⟨s g c m (λe=>by have:=K g e;omega),by simp only[Ma c];exact q⟩⟩
 have e:i=k:=by simp at H;omega
 subst e;rw[Re (by omega)];simp only[L,Nat.sub_self,Eg];refine⟨l (Ia _) U λg o R c _=>?_,l X V λg o R c J=>?_⟩;simp only[Ja (show ¬g<wr.1.size by omega),Ma (D g o R)];simp only[Ja (show ¬g<wr.1.size by omega),Ja (show ¬g<M by omega),Ma J]
def iS.own{w:fA}{b:Nat}{e:kA}{a:nC}{n cap:Nat}{u:List gB}(h:iS w b e (qA a n cap) n u)(K:zA u=n):dD w b a u:=by
 obtain⟨T,m,E,A,F,B⟩:=h;have M:zA m=n:=by rw[<-K,<-A,Xa]
 obtain⟨_,O⟩|⟨g,z,p,v,G,C,_,_,L,y⟩:=E.2;exact Ca (Nb.1 (by omega));simp only[jA.slice.injEq]at v;have H:=F g (by rw[v.1];rfl);have I:∀(l:List TV) i(q:i<zA l),(iF l)[i*4]?=cA (pA l[i].t.N)/\(iF l)[i*4+1]?=cA (aB l[i].t.L)/\(iF l)[i*4+2]?=cA (.slice l[i].a1 (zA l[i].t.M) l[i].c1)/\(iF l)[i*4+3]?=cA (.slice l[i].a2 (zA l[i].t.Z) l[i].c2):=by
  intro l;unfold iF;induction l with
  |nil=>intro i q;exact absurd q (by simp)
  |cons x r N=>
   intro i q;cases i with
   |zero=>simp
   |succ i=>
    have:=N i (by simpa using q);simp only[Xc,Sd,Mb,Ec];refine⟨?_,?_,?_,?_⟩;rw[show(i+1)*4=i*4+1+1+1+1 by omega,Ga,Ga,Ga,Ga];exact this.1;rw[show(i+1)*4+1=i*4+1+1+1+1+1 by omega,Ga,Ga,Ga,Ga];exact this.2.1;rw[show(i+1)*4+2=i*4+2+1+1+1+1 by omega,Ga,Ga,Ga,Ga];exact this.2.2.1;rw[show(i+1)*4+3=i*4+3+1+1+1+1 by omega,Ga,Ga,Ga,Ga];exact this.2.2.2
 have s:∀j,j<n*4->w.cell? (eB g j)=(iF m)[j]?:=λj J=>by
  rw[jB.cell (show jB w g p e from C) j,<-Yd,<-y,Jb J]
 refine La ⟨g,0,p,e,T,v.1,G,C,H,λi q=>?_⟩;have o:i<zA m:=by omega
 have D:u[i]=m[i].t:=by simp only[<-A,List.getElem_map]
 obtain⟨c,d,f,k⟩:=I m i o;rw[D];refine⟨m[i].a1,m[i].c1,m[i].a2,m[i].c2,?_,?_,?_,?_,(B i o).1,(B i o).2⟩;rw[Ya,s _ (by omega)];exact c;rw[Ya,s _ (by omega)];exact d;rw[Ya,s _ (by omega)];exact f;rw[Ya,s _ (by omega)];exact k
def jl(v:Int):∀k,CY v k=v / 2 ^ (8*k)
 |0=>by simp[CY]
 |k+1=>by
  rw[CY,jl v k,show 8*(k+1)=8*k+8 by omega,Int.pow_add,Int.ediv_ediv_of_nonneg (Int.pow_nonneg (by omega))];rfl
def gx(v:Int):∀n i,i<n->(wX v n)[i]?=cA (CY v (n-1-i) % 256)
 |0,i,h=>absurd h (by omega)
 |n+1,0,_=>by simp[wX]
 |n+1,i+1,h=>by
  rw[wX,Ga,gx v n i (by omega)];congr 3;omega
theorem oH(n:Nat)(v:Int)(w:World)(J:n<=8):
 Calls prog 74 #[aB v,aB n] w λe F=>e=.returned (.string (tB n v))/\Below w.1.size w F:=by
 obtain⟨C,y,B⟩:∃C:Array Value,C.size=n/\(Instr.makeSlice 22 (aB n) (aB n)).run prog w=.ok (.slice (vB w.1.size) n n) (w.alloc (.cells C 5)):=by
  obtain⟨E,m,o,q,r⟩:=MI;have h:=run_make (P:=prog) w 22 5 E _ underlying22 m o .i64 .i64 (n:Int) (n:Int) (by omega) (by omega) (by rw[r];omega) (by omega);rw[q,Hd,Nat.mul_one]at h;exact⟨_,size_madeCells _ _,h⟩
 have t:cB (jB (w.alloc (.cells C 5)) w.1.size C 5):=heap_alloc_new _ _;go_enter func74,ntmps74;go_wp2;go_loopw [6,11] (λ_ c wr=>∃(k:Nat)(b:Array Value),k<=n/\c=aB k/\cB (jB wr w.1.size b 5)/\b.size=n/\cB (∀i,i<k->b[n-1-i]?=some (.int .u8 (CY v i % 256)))/\cB (Below w.1.size w wr)) (λ_ c _=>n-(intOf c).toNat)
 case atStart=>exact⟨0,C,by omega,rfl,t,y,λi l=>absurd l (by omega),bC⟩
 case round=>
  obtain⟨k,b,I,rfl,a,j,f,d⟩:=hrel;by_cases A:k<n
  .obtain ⟨p,K,g⟩:∃p:Nat,(n:Int)-1-(k:Int)=(p:Int)/\cB (p=n-1-k):=⟨n-1-k,by omega,rfl⟩
   have G:wr.cell? (eB w.1.size p)=some (b[p]'(by have:=g.o;omega)):=by rw[a.o.cell];exact Qc _
   have H:=a.o.free p;go_wp2;refine⟨⟨k+1,b.setIfInBounds p (.int .u8 (v / 2 ^ (8*k) % 256)),by omega,by go_num,a.o.set p _,by simp[j],?_,d.o.setCell (p:=(eB w.1.size p)) (Ia _) _⟩,by simp[intOf];omega⟩;intro i l;have D:=g.o;rw[Eb];split
   .rename_i e;have u:i=k:=by omega
    subst u;rw[Ma (by omega),jl]
   .rename_i e;exact f.o i (by omega)
  .have e:k=n:=by omega
   subst e;have z:(convert 22 9 (.slice (vB w.1.size) k k)).run prog wr=.ok (.string (tB k v)) wr:=by
    refine run_convert_bytes_arg wr 22 5 underlying22 underlying5 w.1.size 0 _ _ (wX v k) (bZ v k) (λi l=>?_) 9 underlying9;rw[a.o.cell,Ya];have s:=f.o (k-1-i) (by omega);rw[show k-1-(k-1-i)=i by omega]at s;rw[s];have x:=gx v k i (by omega);simp[List.getD,x]
   go_wp2;go_ret;exact⟨rfl,d.o⟩
def MM{a b:pB}(h:a=b):Ending.returned (pA a)=.returned (pA b):=by rw[h]
def SR(p:pB)(w:fA)(d:p.size<=maxLen):
 cF 174 #[pA p] w (pA (dF p)):=by
 by_cases h:1<=p.size/\p.size<=60000
 .have i:yB (p.size:Int) 1 60000=eA:=by unfold yB;simp;omega
  have E:cB (dF p=tB 4 p.size++tB 4 (pL p:Nat)++p):=Ma h;have k:=nB 4 (p.size:Int);have l:=nB 4 ((pL p:Nat):Int);have m:=ro p;have n:=h.2;have g:cB (p.size<=maxLen):=d;clear d h;go_enter func174,ntmps174;go_wp2_with(go_at_call 86;apply kO (uD _ _ _ _));refine jC (mD 4 (p.size:Int) _ (by omega) (by omega) (by omega)) ?_;intro o a;go_wp2_with fail;apply kO (LC p _ g.o);go_wp2_with fail;refine jC (mD 4 ((pL p:Nat):Int) _ (by omega) (by omega) (by omega)) ?_;intro j b;generalize tB 4 (p.size:Int)=A at *;generalize tB 4 ((pL p:Nat):Int)=B at *;have f:cB (xB w j):=aC a b;clear a b;go_wp2;go_ret;exact⟨MM E.o.symm,f.o⟩
 have i:yB (p.size:Int) 1 60000=dA:=by unfold yB;simp;omega
 have E:cB (dF p=lA):=Ja h;go_enter func174,ntmps174;go_wp2_with(go_at_call 86;apply kO (uD _ _ _ _));go_ret;exact⟨MM E.o.symm,gD⟩
def ew:(prog.info? 119).map (λi=>(i.zero,i.size,i.bytes))=cA (cA (.agg #[aB 0,pA lA,pA lA,aB 0]),4,48):=by kernel_rfl
