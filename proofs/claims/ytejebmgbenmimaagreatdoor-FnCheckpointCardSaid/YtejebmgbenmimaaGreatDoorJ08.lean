import Derived.Test.YtejebmgbenmimaaGreatDoorJ06
import Derived.Deep.RegionHeld3
set_option maxRecDepth 100000
set_option maxHeartbeats 2000000
set_option linter.defProp false
open Option renaming none->eA,some->fA
open Bool renaming true->iA,false->gA
open ByteArray renaming empty->pA
open List renaming length->cB
namespace Go.Proofs.YtejebmgbenmimaaGreatDoor
open Go renaming World->jA,TypeId->oA,Value->mA
open Value renaming slice->uA,string->tA
open Obj renaming cells->aB
open Go.RowKit Tryz
theorem gI{D:Array Oper}{d:List Oper}{o:Oper}{a:Act}{Q:Exit->Act->jA->Prop}{w:jA}(r:o.guard=eA)(s x:Operand){m T:oA}{z:mA}{j b:Nat}
(K:o.op=.call { callee:=.builtin .append,args:=#[s,x],argTypes:=#[m,m] })(N:prog.underlying m=fA (.slice T))(y:(prog.info? T).map (λi=>(i.zero,i.size,i.bytes))=fA (fA z,j,b))(P:z.cells.size=j)(E:0<j)(G:b<=100)
{B n:Nat}{v:mA}{A:List mA}{cs:Array mA}(M:a.eval s=v)(C:w.ownsRow B T j v n A){p:Nat}(O:a.eval x=uA (cC p) 1 1)(L:w.1.size=p)(H:cs.size=j)(F:∀u∈cs.toList,u.oneCell'=iA)(J:n<=5000000)(V:B<=w.1.size)
(h:∀g c l,fB (l.ownsRow B T j (uA (cC g) (n+1) c) (n+1) (A++cs.toList))->fB (jB (λi=>B<=i/\v.ownBlock=fA i) w l)->fB (v.ownBlock=fA g\/w.1.size<=g)->wpList prog D Q d (a.put o.dst (uA (cC g) (n+1) c)) l):
 wpList prog D Q (o::d) a (w.alloc (aB cs T)):=by
 subst L;obtain⟨i,y,R,S,U⟩:=info_parts y;have I:(n+1)*b<=140737488355328:=Ua (Hf (Nat.add_le_add_right J 1) G) (by decide);refine wpList_append_lies _ r s x _ K B T i z j b N y R S U P E v n A M (jA.ownsRow.alloc C _) (iB w.1.size 0) 1 1 cs.toList O (by simpa using H) (by
  have:=jA.news_of_block (cs:=cs) (t:=T) (fr:=(0,0)) (heap_alloc_new w (aB cs T));simpa using this) F (by omega) (by simp[maxLen];omega) I (by simp;omega) (w.1.size+1) (by simp) ?_
 intro g c l k f q _;exact h g c l k ((jB.of (uF w (aB cs T))).trans' ((jB.grown f).mono λi _ e=>⟨(C.lt i e).1,e⟩)) (q.imp_right λe=>by rw[e];simp)
def yP{k:Array Oper}{b:List Oper}{o:Oper}{a:Act}{Q:Exit->Act->jA->Prop}{w:jA}(m:o.guard=eA)(s x:Operand){f T:oA}{z:mA}{c d:Nat}
(E:o.op=.call { callee:=.builtin .append,args:=#[s,x],argTypes:=#[f,f] })(I:prog.underlying f=fA (.slice T))(A:(prog.info? T).map (λi=>(i.zero,i.size,i.bytes))=fA (fA z,c,d))(K:z.cells.size=c)(q:0<c)(y:d<=100)
{B n:Nat}{v:mA}{l:List mA}{cs:Array mA}(H:a.eval s=v)(G:w.ownsRow B T c v n l){p:Nat}(J:a.eval x=uA (cC p) 1 1)(F:w.1.size=p)(C:cs.size=c)(r:∀u∈cs.toList,u.oneCell'=iA)(D:n<=5000000)(t:B<=w.1.size)
(h:∀g e j,fB (j.ownsRow B T c (uA (cC g) (n+1) e) (n+1) (l++cs.toList))->fB (jB (λi=>B<=i/\v.ownBlock=fA i) w j)->wpList prog k Q b (a.put o.dst (uA (cC g) (n+1) e)) j):
 wpList prog k Q (o::b) a (w.alloc (aB cs T)):=by grind [gI]
def tD{P:Program}{f:FuncId}{args:Array mA}{w:jA}{E:Ending}{Q:Ending->jA->Prop}(h:Calls P f args w λe a=>e=E/\a=w)(k:Q E w):Calls P f args w Q:=h.mono (by rintro _ _ ⟨rfl,rfl⟩;exact k)
def SF{w b:jA}{g:Nat}{c d e f:mA}(h:b.heap[g]?=w.heap[g]?)(q:w.cell? (iB g 0)=fA c/\w.cell? (iB g 1)=fA d/\w.cell? (iB g 2)=fA e/\w.cell? (iB g 3)=fA f):b.cell? (iB g 0)=fA c/\b.cell? (iB g 1)=fA d/\b.cell? (iB g 2)=fA e/\b.cell? (iB g 3)=fA f:=by
 simp only[jA.cell?_of_block (a:=(iB g _)) h];exact q
def oR{wr c:jA}{N B n g:Nat}{t E:oA}{cs:Array mA}{h:List mA}{v a:mA}(k:rB wr N cs t)(f:jB (λj=>B<=j/\v.ownBlock=fA j) wr c)(d:c.ownsRow B E g a n h)(m:N<B)(i:Nat):
 rB (c.setCell (iB N i) a) N (cs.setIfInBounds i a) t/\(c.setCell (iB N i) a).ownsRow B E g a n h/\jB (λj=>j=N\/B<=j/\v.ownBlock=fA j) wr (c.setCell (iB N i) a):=
 ⟨(f.blk k (λe=>by omega)).set i a,((jB.refl (·=N) c).setCell (Ca rfl) i _).row d (λb l e=>by have:=(d.lt b l).1;omega),(f.mono λi _ e=>La e).trans' (((jB.refl (·=N) c).setCell (Ca rfl) i a).mono λi _ e=>Ca e)⟩
def dS{V:Array Oper}{o:Oper}{a:Act}{K:Act->jA->Prop}{Q:Exit->Act->jA->Prop}{E:Prop}{w:jA}(q:o.guard=eA)(s x:Operand){l T:oA}{z:mA}{f b:Nat}
(J:o.op=.call { callee:=.builtin .append,args:=#[s,x],argTypes:=#[l,l] })(N:prog.underlying l=fA (.slice T))(r:(prog.info? T).map (λi=>(i.zero,i.size,i.bytes))=fA (fA z,f,b))(P:z.cells.size=f)(C:0<f)(F:b<=100)
{B n:Nat}{v:mA}{y:List mA}{cs:Array mA}(M:a.eval s=v)(A:w.ownsRow B T f v n y){p:Nat}(O:a.eval x=uA (cC p) 1 1)(L:w.1.size=p)(G:cs.size=f)(D:∀u∈cs.toList,u.oneCell'=iA)(I:n<=1000000000)(W:B<=w.1.size)
(h:∀g c k,fB (k.ownsRow B T f (uA (cC g) (n+1) c) (n+1) (y++cs.toList))->fB (jB (λi=>B<=i/\v.ownBlock=fA i) w k)->fB (v.ownBlock=fA g\/w.1.size<=g)->K (a.put o.dst (uA (cC g) (n+1) c)) k):
 if Region.wanted o (yielded V a.tmps)=iA then Oper.wp prog o a (w.alloc (aB cs T)) K Q else E:=by
 subst L;obtain⟨i,r,R,S,U⟩:=info_parts r;have H:(n+1)*b<=140737488355328:=Ua (Hf (Nat.add_le_add_right I 1) F) (by decide);refine step_append_lies _ q s x _ J B T i z f b N r R S U P C v n y M (jA.ownsRow.alloc A _) (iB w.1.size 0) 1 1 cs.toList O (by simpa using G) (by
  have:=jA.news_of_block (cs:=cs) (t:=T) (fr:=(0,0)) (heap_alloc_new w (aB cs T));simpa using this) D (by omega) (by simp[maxLen];omega) H (by simp;omega) (w.1.size+1) (by simp) ?_
 intro g c k j d m _;exact h g c k j ((jB.of (uF w (aB cs T))).trans' ((jB.grown d).mono λi _ e=>⟨(A.lt i e).1,e⟩)) (m.imp_right λe=>by rw[e];simp)
def eS{Y:Array Oper}{o:Oper}{a:Act}{K:Act->jA->Prop}{Q:Exit->Act->jA->Prop}{E:Prop}{w:jA}(v:o.guard=eA)(s x:Operand){p T:oA}{z:mA}{e d:Nat}
(N:o.op=.call { callee:=.builtin .append,args:=#[s,x],argTypes:=#[p,p] })(R:prog.underlying p=fA (.slice T))(y:(prog.info? T).map (λi=>(i.zero,i.size,i.bytes))=fA (fA z,e,d))(U:z.cells.size=e)(D:0<e)(J:d<=100)
{B j n r:Nat}{A:List mA}(P:a.eval s=uA (cC j) n r)(O:w.ownsRow B T e (uA (cC j) n r) n A){q:nC}{m C:Nat}(b:List mA)(S:a.eval x=uA q m C)(L:cB b=m*e)(l:gS w q m b)(t:∀u∈b,u.oneCell'=iA)(M:n+m<=1000000000)(I:B<=w.1.size)
(h:∀g c f,f.ownsRow B T e (uA (cC g) (n+m) c) (n+m) (A++b)->Below B w f->(∀k,k<w.1.size->k≠j->f.heap[k]?=w.heap[k]?)->(g=j\/g=w.1.size)->K (a.put o.dst (uA (cC g) (n+m) c)) f):
 if Region.wanted o (yielded Y a.tmps)=iA then Oper.wp prog o a w K Q else E:=by
 obtain⟨i,y,V,W,X⟩:=info_parts y;exact yI w v s x _ N B T i z e d R y V W X U D j n r A P O q m C b S L l t (by simp[maxLen];omega) (Ua (Hf M J) (by decide)) I λg c f t F G _ H _=>h g c f t F G H
def cV:(prog.info? 107).map (λi=>(i.zero,i.size,i.bytes))=fA (fA (.agg #[tA ⟨#[]⟩,dB 0]),2,24):=by kernel_rfl
def vY:(prog.info? 109).map (λi=>(i.zero,i.size,i.bytes))=fA (fA (.agg #[tA ⟨#[]⟩,dB 0]),2,24):=by kernel_rfl
def nK{W:jA}{B:Nat}{e:oA}{b:Nat}{v:mA}{n:Nat}{i:List mA}(h:W.ownsRow B e b v n i):∃a c,v=uA a n c:=by
 obtain⟨rfl,rfl⟩|⟨g,d,f,rfl,_⟩:=h.2;exact ⟨eA,0,rfl⟩;exact ⟨_,_,rfl⟩
def aAw:(prog.info? 190).map (λi=>(i.zero,i.size,i.bytes))=fA (fA (.agg #[tA pA,tA pA]),2,32):=by kernel_rfl
def cz:(prog.info? 132).map (λi=>(i.zero,i.size,i.bytes))=fA (fA (.agg #[uA eA 0 0,dB 0]),2,32):=by kernel_rfl
def LE(a:List Nat):List Int:=a.map fun(r:Nat)=>(r:Int)
def PK(a:List Nat):cB (LE a)=cB a:=by simp[LE]
def xc(a:List Nat)(r:Nat):LE (a++[r])=LE a++[(r:Int)]:=by simp[LE]
def aEt(r:Nat)(h:¬r<32):dC (r:Int) 127 159=BT r:=by
 unfold dC BT;rw[Qb];simp;omega
def rj(l:List Nat)(k:Nat)(h:k<cB l):l.any BT=((l.take k).any BT||(BT l[k] ||(l.drop (k+1)).any BT)):=by
 have e:=Za k l;rw[Cb h]at e;rw[<-List.any_cons,<-Tf,e]
def KP(s:vB)(w:jA)(hs:s.size<=1000000000):
 gF 198 #[tA s] w (dB (zO s:Nat)):=by
 obtain⟨ti,K,Y,Z,G⟩:=aAy;have I:fB _:=K;clear K;go_enter func198,ntmps198;go_wp2;go_loopw [3,4,5,6] (λm x _ _ wr=>∃(p:Nat)(a:List Nat)(F:nC)(M:Nat),p<=s.size/\cB a<=p/\fB (AO s p a/\∀i(h:i<cB a),a[i]<=1114111)/\x=dB p/\m=uA F (cB a) M/\fB (wr.ownsRow w.1.size 3 1 (uA F (cB a) M) (cB a) ((LE a).map (mA.int .i64)))/\zB w wr) (λ_ x _ _ _=>s.size-(intOf x).toNat)
 case atStart=>
  exact⟨0,[],_,_,Oa _,Oa _,⟨AO.start s,λi h=>absurd h (by simp)⟩,rfl,rfl,jA.ownsRow_made w #[] 0 (Ia _) (by simp[maxLen]) (by simp),aC⟩
 case round=>
  obtain⟨p,a,F,M,m,m,B,rfl,rfl,f,c⟩:=hrel;have m:=c.size;by_cases A:p<s.size
  .have hz:(s.extract p s.size).size=s.size-p:=by simp
   have d:=λW=>ZC (s.extract p s.size) W (by omega) (by unfold maxLen;omega);rw[aJd]at d;by_cases y:Utf8.decode s p=(65533,1)
   .rw[Ma y]at d;have v:fB (∀W,bM 252 #[tA (s.extract p s.size)] W (.tuple #[dB 0,dB 0])):=d;have D:fB _:=B.o.1.bad A y;clear d y hz;go_wp2_with fail;apply dR (v.o _);go_wp2;go_ret;exact⟨vF (by rw[D.o];rfl),c⟩
   rw[Ja y]at d;have m:=gW s p;have m:=JA s p A y;have J:=oY s p;have S:fB (AO s (p+(Utf8.decode s p).2) (a++[(Utf8.decode s p).1])):=B.o.1.step A y;generalize (Utf8.decode s p).1=R at *;generalize (Utf8.decode s p).2=N at *;have v:fB _:=d;have m:((N:Int)==0)=gA:=by simp;omega
   obtain⟨V,m⟩:=J;clear d y hz;go_wp2_with fail;apply dR (v.o _);go_wp2_with(at_builtin;refine wpList_append_lies _ rfl _ _ _ rfl w.1.size 3 ti _ 1 8 underlying26 I.o Y Z G rfl (by omega) (uA F (cB a) M) (cB a) ((LE a).map (mA.int .i64)) rfl (by exact lC f.o aC) (iB wr.1.size 0) 1 1 [dB (R:Int)] rfl rfl (by exact jA.news_of_block (heap_alloc_new _ _)) (by simp[mA.oneCell']) (by omega) (by simp[maxLen];omega) (by omega) (by simp;omega) (wr.1.size+1) (by simp) ?_;intro I G J l n m m);have T:zB w J:=(xB c aC).grown n (by simp;omega) (λq O=>by
    obtain⟨U,_⟩|⟨g,cap,m,U,m,_⟩:=f.o.2;rw[U]at O;simp[mA.ownBlock]at O;rw[U]at O;simp[mA.ownBlock]at O;omega)
   have X:(LE a).map (mA.int .i64)++[mA.int .i64 (R:Int)]=(LE (a++[R])).map (mA.int .i64):=by simp[xc]
   have z:cB (a++[R])=cB a+1:=by simp
   rw[X,<-z]at l;refine⟨⟨p+N,a++[R],cC I,G,by omega,by rw[z];omega,⟨S.o,λi m=>?_⟩,by go_num,by rw[z],l,T⟩,by simp[intOf];omega⟩;by_cases e:i<cB a
   .rw[Ve e];exact B.o.2 i e
   rw[Re (by omega)];simp;exact V
  have D:fB _:=B.o.1.done (by omega);by_cases t:128<cB a
  .have m:fB (zO s=43):=by show _=_;rw[D.o,QT,Ma t]
   go_wp2;go_ret;exact⟨vF (by rw[m.o];rfl),c⟩
  have m:fB (zO s=if a.any BT=iA then 44 else 0):=by show _=_;rw[D.o,QT,Ja t]
  have I:fB (MG wr F (LE a)):=eu (by rw[PK];exact f.o);have J:fB _:=B.o.2;clear f B D;go_wp2;go_loop [8,35] (λ_ i=>∃k:Nat,k<=cB a/\i=dB k/\fB ((a.take k).any BT=gA)) (λ_ i=>cB a-(intOf i).toNat)
  case atStart=>exact⟨0,Oa _,rfl,by show _=_;simp⟩
  case round=>
   obtain⟨k,G,rfl,G⟩:=hrel;by_cases j:k<cB a
   .obtain ⟨b,o,rfl,hb,c0⟩:=I.o.at (i:=k) (by rw[PK];exact j)
    have I:=J.o k j;have I:(LE a)[k]'(by rw[PK];exact j)=((a[k]:Nat):Int):=by simp[LE]
    rw[I]at c0;have r:fB (BT a[k]=iA->zO s=44):=λh=>by rw[m.o,rj a k j,h];simp
    have Q:fB (BT a[k]=gA->(a.take (k+1)).any BT=gA):=λh=>by rw[Pa j,Tf,G.o];simp[h]
    have P:=aEt a[k];clear I;generalize a[k]=R at *;by_cases H:R<32
    .have E:fB (BT R=iA):=by show _=_;simp[BT,H]
     clear P;go_wp2;go_ret;exact⟨vF (by rw[r.o E.o];rfl),c⟩
    have C:fB _:=P H;clear P;by_cases I:BT R=iA
    .have u:fB _:=C.o.trans I;have L:fB _:=I;clear I;go_wp2_with fail;apply oC (zD _ _ _ _);intro w1 h;rw[u.o];replace h:=h.symm;subst h;go_wp2;go_ret;exact⟨vF (by rw[r.o L.o];rfl),c⟩
    have L:fB (BT R=gA):=by show _=_;simpa using I
    have u:fB _:=C.o.trans L.o;clear I;go_wp2_with fail;apply oC (zD _ _ _ _);intro w1 h;rw[u.o];replace h:=h.symm;subst h;go_wp2;exact⟨⟨k+1,by omega,by go_num,Q.o L.o⟩,by simp[intOf];omega⟩
   have h:fB (zO s=0):=by
    show _=_;have:=G.o;rw[Ra (by omega)]at this;rw[m.o,this];rfl
   go_wp2;go_ret;exact⟨vF (by rw[h.o];rfl),c⟩
def wC(a:List hC):List mA:=a.flatMap λx=>[tA x.N,tA x.V]
def cG(a b:List hC):wC (a++b)=wC a++wC b:=by simp[wC]
def wG(a:List hC):cB (wC a)=cB a*2:=by
 induction a with
 |nil=>rfl
 |cons f r b=>simp[wC]at *;omega
def EJ:∃i,prog.info? 190=fA i/\i.zero=fA (.agg #[tA pA,tA pA])/\i.size=2/\i.bytes=32:=by
 obtain⟨i,b,a⟩:=Wb.1 tS;simp only[Dc]at a;exact⟨i,b,a.1,a.2.1,a.2.2⟩
def vt(W:jA)(x:Obj)(cs:Array mA)(t:oA):∀j u,cs.toList[j]?=fA u->((W.alloc x).alloc (aB cs t)).cell? (((iB (W.1.size+1) 0):Addr).add j)=fA u:=
 jA.news_of_block (fr:=(0,0)) (by have h:=heap_alloc_new (W.alloc x) (aB cs t);simpa using h)
def dp(l:hC):vS l=l.V.toList.isEmpty:=by simp_all[vS]
def qS(b:List hC):∀u∈wC b,u.oneCell'=iA:=by
 intro u a;simp only[wC,Ig,Lb,Ed,Bf]at a;obtain⟨f,_,rfl|rfl⟩:=a<;>rfl
theorem aAk{w:jA}{g:Nat}{a:List hC}(h:∀j u,(wC a)[j]?=fA u->w.cell? (iB g j)=fA u)(p:Nat):∀j u,(wC (a.drop p))[j]?=fA u->w.cell? (iB g (p*2+j))=fA u:=by
 intro j u b;refine h _ _ ?_;by_cases d:p<=cB a
 .have e:wC a=wC (a.take p)++wC (a.drop p):=by rw[<-cG,Za]
  have c:cB (wC (a.take p))=p*2:=by rw[wG,Hb];omega
  rw[e,Uc (by omega),c,Nat.add_sub_cancel_left];exact b
 rw[Yb (by omega)]at b;simp[wC]at b
theorem ke{a:List hC}{p:Nat}:∀(j:Nat)(u:mA),(wC (a.take p))[j]?=fA u->(wC a)[j]?=fA u:=by
 intro j u b;have e:wC a=wC (a.take p)++wC (a.drop p):=by rw[<-cG,Za]
 have c:j<cB (wC (a.take p)):=(Pb.1 b).1;rw[e,Pe c];exact b
def mK{w:jA}{B:Nat}{e:oA}{g i:Nat}{a:List hC}(h:w.ownsRow B e 2 (uA (cC g) (cB a) i) (cB a) (wC a)):cB a<=i/\g<w.1.size/\B<=g/\∀j u,(wC a)[j]?=fA u->w.cell? (iB g j)=fA u:=by
 obtain⟨b,_⟩|⟨p,f,d,b,l,k,m,_,_,o⟩:=h.2;simp at b;simp only[mA.slice.injEq,Qa,Addr.mk.injEq,Cc]at b;obtain⟨rfl,_,rfl⟩:=b;refine⟨m,eB k,l,λj u c=>?_⟩;rw[cell_of_row w g j d _ _ k,<-Yd];rw[<-o]at c;have n:=(Pb.1 c).1;rw[Hb]at n;rw[Jb (by omega)]at c;exact c
def gw{w:jA}{g:Nat}{a:List hC}(h:∀j u,(wC a)[j]?=fA u->w.cell? (iB g j)=fA u)(p:Nat):gS w (cC g) p (wC (a.take p)):=by grind [wC,gS,MK,ke]
def gx{w:jA}{g b:Nat}{a:List hC}(h:∀j u,(wC a)[j]?=fA u->w.cell? (iB g j)=fA u)(p:Nat)(c:cB a<=b):gS w (if b=p then cC g else fA (iB g (p*2))) (cB a-p) (wC (a.drop p)):=by grind [wC,gS,MK,aAk]
def ZE{w:jA}{g:Nat}{x y:mA}{t:oA}(h:w.heap[g]?=fA (aB #[x,y] t (0,0))):gS w (cC g) 1 [x,y]:=
 La ⟨_,rfl,jA.news_of_block (cs:=#[x,y]) h⟩
def jY{W w:jA}{g:Nat}{a:List hC}(h:∀j u,(wC a)[j]?=fA u->W.cell? (iB g j)=fA u)(c:g<W.1.size)(b:zB W w):∀j u,(wC a)[j]?=fA u->w.cell? (iB g j)=fA u:=
 λj u d=>(b.cell c).trans (h j u d)
def qr(W:jA)(x y:Obj):((W.alloc x).alloc y).drew.heap[W.1.size+1]?=fA y:=by
 have h:=heap_alloc_new (W.alloc x) y;have e:(W.alloc x).1.size=W.1.size+1:=by simp
 rw[e]at h;exact h
def qt(W:jA)(x y:Obj):((W.alloc x).alloc y).drew.heap[W.1.size]?=fA x:=by
 have h:=heap_alloc_new W x;have a:=(uF (W.alloc x) y).block W.1.size (by simp);exact a.trans h
def aJy(W:jA)(t:oA):(W.alloc (aB #[] t)).drew.ownsRow W.1.size t 2 (uA (cC W.1.size) 0 0) 0 []:=
 ⟨rfl,La ⟨W.1.size,0,#[],rfl,Ia _,heap_alloc_new _ _,Ia _,Oa _,rfl,rfl⟩⟩
def aJz(W:jA)(t:oA)(x:Obj):((W.alloc (aB #[] t)).alloc x).drew.ownsRow W.1.size t 2 (uA (cC W.1.size) 0 0) 0 []:=
 ⟨rfl,La ⟨W.1.size,0,#[],rfl,Ia _,qt _ _ _,Ia _,Oa _,rfl,rfl⟩⟩
def aKa(W:jA)(t:oA)(x:Obj):((W.alloc x).alloc (aB #[] t)).drew.ownsRow W.1.size t 2 (uA (cC (W.1.size+1)) 0 0) 0 []:=
 ⟨rfl,La ⟨W.1.size+1,0,#[],rfl,by omega,qr _ _ _,Ia _,Oa _,rfl,rfl⟩⟩
def gV{s:vB}(h:¬XZ s):OT s=gA:=Ub h
def UH{s:vB}(h:XZ s):OT s=iA:=Ac h
def YX(s:vB)(w:jA)(A:s.size<=maxLen):
 bM 207 #[tA s] w (.bool (OT s)):=by
 unfold maxLen at A;by_cases b:1<=s.size/\s.size<=64
 .have c:dC (s.size:Int) 1 64=iA:=by simp[dC];omega
  have g:fB _:=c;clear c;have t:0<s.size:=by omega
  have o:=b.2;have x:s[0].toNat<256:=s[0].toNat_lt;have a:fB _:=zU s 0 t;by_cases q:48<=s[0].toNat/\s[0].toNat<=57
  .have E:fB (OT s=gA):=gV (λh=>by
    have:=h.2.2 0 t;unfold BB cY at this;rw[<-a.o]at this;omega)
   have d:¬((s[0].toNat:Int)<48):=by omega
   have z:¬((57:Int)<(s[0].toNat:Int)):=by omega
   clear q b;go_enter func207,ntmps207;go_wp2_with fail;apply oC (zD _ _ _ _);intro u C;rw[g.o];replace C:=C.symm;subst C;go_wp2;go_ret;exact⟨tB E.o.symm,rfl⟩
  .have v:fB (¬(48<=aD s 0/\aD s 0<=57)):=by show ¬_;rw[<-a.o];exact q
   have d:(s[0].toNat:Int)<48\/(57:Int)<(s[0].toNat:Int):=by omega
   clear q b;go_enter func207,ntmps207;go_wp2_with fail;apply oC (zD _ _ _ _);intro u C;rw[g.o];replace C:=C.symm;subst C;go_wp2;all_goals
    go_loop [3,4] (λi _=>∃j:Nat,j<=s.size/\i=dB j/\fB (∀k,k<j->BB s k)) (λi _=>s.size-(intOf i).toNat)
    case atStart=>exact⟨0,Oa _,rfl,λk r=>absurd r (by omega)⟩
    case round=>
     obtain⟨j,G,rfl,m⟩:=hrel;by_cases f:j<s.size
     .have y:s[j].toNat<256:=s[j].toNat_lt;have l:fB _:=zU s j f;have n:fB (j=0->¬(48<=s[j].toNat/\s[j].toNat<=57)):=λe=>by subst e;rw[l.o];exact v.o
      clear d x;by_cases D:s[j].toNat=95
      .have p:((s[j].toNat:Int) != 95)=gA:=by simp;omega
       go_wp2;all_goals
        refine⟨⟨j+1,by omega,by go_num,?_⟩,by simp[intOf];omega⟩;show ∀k,_;intro k r;by_cases e:k=j
        .subst e;unfold BB cY;rw[<-l.o];omega
        exact m.o k (by omega)
      have p:((s[j].toNat:Int) != 95)=iA:=by simp;omega
      go_wp2;all_goals first
       |(go_ret
         refine⟨tB (gV ?_).symm,rfl⟩;intro h;have:=h.2.2 j f;unfold BB cY NF at this;rw[<-l.o]at this;omega)
       |(refine⟨⟨j+1,by omega,by go_num,?_⟩,by simp[intOf];omega⟩
         show ∀k,_;intro k r
         by_cases e:k=j
         .subst e
          have:=n.o;unfold BB cY NF;rw[<-l.o];omega
         exact m.o k (by omega))
       |(exfalso;rename_i B;simp at B;omega)
     go_wp2;go_ret;exact⟨tB (UH ⟨by omega,o,λi F=>m.o i (by omega)⟩).symm,rfl⟩
 have c:dC (s.size:Int) 1 64=gA:=by simp[dC];omega
 have g:fB _:=c;have E:fB _:=gV (λh=>b ⟨h.1,h.2.1⟩);clear c b;go_enter func207,ntmps207;go_wp2_with fail;apply oC (zD _ _ _ _);intro u C;rw[g.o];replace C:=C.symm;subst C;go_wp2;go_ret;exact⟨tB E.o.symm,rfl⟩
def RP{P:Program}(w:jA){o:Oper}{a:Act}{K:Act->jA->Prop}{Q:Exit->Act->jA->Prop}(v:o.guard=eA)(s x:Operand)(t:oA)
(O:o.op=.call { callee:=.builtin .append,args:=#[s,x],argTypes:=#[t,t] })
(base:Nat)(e:oA)(i:TypeInfo)(z:mA)(b f:Nat)(S:P.underlying t=fA (.slice e))(M:P.info? e=fA i)(U:i.zero=fA z)
(p:i.size=b)(G:i.bytes=f)(I:z.cells.size=b)(H:0<b)
(r n D:Nat)(J:List mA)(R:a.eval s=uA (cC r) n D)(y:w.ownsRow base e b (uA (cC r) n D) n J)
(C:nC)(m c:Nat)(d:List mA)(T:a.eval x=uA C m c)(N:cB d=m*b)(A:gS w C m d)(L:∀u∈d,u.oneCell'=iA)
(F:n+m<=maxLen)(j:(n+m)*f<=140737488355328)(l:base<=w.1.size)
(h:∀g q B,B.ownsRow base e b (uA (cC g) (n+m) q) (n+m) (J++d)->Below base w B->(∀k,k<w.1.size->k≠r->B.heap[k]?=w.heap[k]?)->base<=g->(g=r\/g=w.1.size)->g<B.1.size->K (a.put o.dst (uA (cC g) (n+m) q)) B):
 Oper.wp P o a w K Q:=by
 have V:Region.wanted o (yielded #[] a.tmps)=iA:=by simp[Region.wanted,v]
 have:=yI (P:=P) w (ops:=#[]) (E:=False) (Q:=Q) v s x t O base e i z b f S M U p G I H r n D J R y C m c d T N A L F j l h;rwa [Ma V]at this
structure TV where
 t:kB
 a1:nC
 c1:Nat
 a2:nC
 c2:Nat
def mF(a:List TV):List mA:=a.flatMap λy=>[tA y.t.N,dB y.t.L,uA y.a1 (cB y.t.M) y.c1,uA y.a2 (cB y.t.Z) y.c2]
def XD(a b:List TV):mF (a++b)=mF a++mF b:=by simp[mF]
def yn(w:jA)(b:Nat)(T:Nat->Nat)(a:List TV):Prop:=
 ∀i(h:i<cB a),cF w b T (2*i+1) a[i].a1 a[i].t.M/\cF w b T (2*i+2) a[i].a2 a[i].t.Z
def jQ(w:jA)(b:Nat)(e:oA)(v:mA)(n:Nat)(a:List kB):Prop:=
 ∃T ys,w.ownsRow b e 4 v n (mF ys)/\ys.map (·.t)=a/\(∀g,v.ownBlock=fA g->T g=0)/\yn w b T ys
def jQ.nil(w:jA)(b:Nat)(e:oA):jQ w b e (uA eA 0 0) 0 []:=
 ⟨λ_=>0,[],jA.ownsRow_nil _ _ _ _,rfl,λ_ _=>rfl,λi h=>absurd h (by simp)⟩
def jQ.row{w:jA}{b:Nat}{e:oA}{v:mA}{n:Nat}{i:List kB}(h:jQ w b e v n i):∃a c,v=uA a n c:=by
 obtain⟨_,_,h,_⟩:=h;obtain⟨rfl,rfl⟩|⟨g,d,f,rfl,_⟩:=h.2;exact ⟨eA,0,rfl⟩;exact ⟨_,_,rfl⟩
def jQ.turn{w f:jA}{S:Nat->Prop}{b:Nat}{e:oA}{v:mA}{n:Nat}{q:List kB}(h:jQ w b e v n q)(p:jB S w f)(l:∀g,S g->g<b):jQ f b e v n q:=by
 obtain⟨T,t,j,r,s,k⟩:=h;refine⟨T,t,p.row j (λg a e=>by have:=(j.lt g a).1;have:=l g e;omega),r,s,λi m=>?_⟩;have o:∀g,g<w.1.size->b<=g->f.heap[g]?=w.heap[g]?:=λg a c=>p.block g a (λe=>by have:=l g e;omega);exact⟨(k i m).1.keep λg a c d=>⟨o g a c,d⟩,(k i m).2.keep λg a c d=>⟨o g a c,d⟩⟩
def jQ.snoc{wr w4 m:jA}{b M d p k:Nat}{e:oA}{v:mA}{T:Nat->Nat}{ys:List TV}{S:List kB}{t:kB}{y A:nC}{P Q:Nat}
(x:m.ownsRow b e 4 (uA (cC d) (k+1) p) (k+1) (mF ys++[tA t.N,dB t.L,uA y (cB t.M) P,uA A (cB t.Z) Q]))
(N:ys.map (·.t)=S)(L:cB ys=k)(K:∀g,v.ownBlock=fA g->T g=0)(hp:yn wr b T ys)(h:b<=wr.1.size)(X:wr.1.size<=M)
(s:∀g,g<wr.1.size->b<=g->v.ownBlock≠fA g->m.heap[g]?=wr.heap[g]?)(I:∀g,wr.1.size<=g->g<w4.1.size->m.heap[g]?=w4.heap[g]?)
(U:kD w4 wr.1.size y t.M)(D:∀g o,y=fA (iB g o)->g<M)(V:kD w4 M A t.Z)
(G:(v.ownBlock=fA d/\d<wr.1.size)\/w4.1.size<=d)(W:wr.1.size<=w4.1.size)(Y:M<=w4.1.size):jQ m b e (uA (cC d) (k+1) p) (k+1) (S++[t]):=by
 have l:∀{B n:Nat}{z:Nat->Nat}{a:nC}{O:List pB},wr.1.size<=B->kD w4 B a O->(∀g o,a=fA (iB g o)->B<=g->g<w4.1.size->z g=n)->cF m b z n a O:=by
  intro B n z a O h h q;obtain h|⟨g,o,C,ty,rfl,E,f,F⟩:=h;exact Ca h;have w:=eB f;have u:=I g (by omega) w;have Z:∀j,m.cell? (iB g j)=w4.cell? (iB g j):=λj=>jA.cell?_of_block u;exact La ⟨g,o,C,ty,rfl,by omega,q g o rfl E w,u.trans f,λi H=>by simp only[Z];exact F i H⟩
 refine⟨λg=>if g<wr.1.size then T g else if g<M then 2*k+1 else if g<w4.1.size then 2*k+2 else 0,ys++[⟨t,y,P,A,Q⟩],?_,?_,?_,?_⟩;rw[XD];exact x;rw[Ld,N];rfl
 .intro g c;simp only[mA.ownBlock,Qa]at c;subst c;obtain⟨h,J⟩|h:=G
  .simp only[Ma J];exact K _ h
  simp only[Ja (show ¬d<wr.1.size by omega),Ja (show ¬d<M by omega),Ja (show ¬d<w4.1.size by omega)]
 intro i H;by_cases r:i<cB ys
 .rw[Ve r];obtain⟨h,G⟩:=hp i r;refine⟨h.keep λg c m q=>⟨s g c m (λe=>by have:=K g e;omega),by simp only[Ma c];exact q⟩,G.keep λg c m q=>⟨s g c m (λe=>by have:=K g e;omega),by simp only[Ma c];exact q⟩⟩
 have e:i=k:=by simp at H;omega
 subst e;rw[Re (by omega)];simp only[L,Nat.sub_self,Eg];refine⟨l (Ia _) U λg o R c _=>?_,l X V λg o R c J=>?_⟩;simp only[Ja (show ¬g<wr.1.size by omega),Ma (D g o R)];simp only[Ja (show ¬g<wr.1.size by omega),Ja (show ¬g<M by omega),Ma J]
def jQ.own{w:jA}{b:Nat}{e:oA}{a:nC}{n cap:Nat}{u:List kB}(h:jQ w b e (uA a n cap) n u)(K:cB u=n):cD w b a u:=by
 obtain⟨T,m,E,A,F,B⟩:=h;have M:cB m=n:=by rw[<-K,<-A,Xa]
 obtain⟨_,O⟩|⟨g,z,p,v,G,C,_,_,L,y⟩:=E.2;exact Ca (Nb.1 (by omega));simp only[mA.slice.injEq]at v;have H:=F g (by rw[v.1];rfl);have I:∀(l:List TV) i(q:i<cB l),(mF l)[i*4]?=fA (tA l[i].t.N)/\(mF l)[i*4+1]?=fA (dB l[i].t.L)/\(mF l)[i*4+2]?=fA (.slice l[i].a1 (cB l[i].t.M) l[i].c1)/\(mF l)[i*4+3]?=fA (.slice l[i].a2 (cB l[i].t.Z) l[i].c2):=by
  intro l;unfold mF;induction l with
  |nil=>intro i q;exact absurd q (by simp)
  |cons x r N=>
   intro i q;cases i with
   |zero=>simp
   |succ i=>
    have:=N i (by simpa using q);simp only[Xc,Sd,Mb,Ec];refine⟨?_,?_,?_,?_⟩;rw[show(i+1)*4=i*4+1+1+1+1 by omega,Ga,Ga,Ga,Ga];exact this.1;rw[show(i+1)*4+1=i*4+1+1+1+1+1 by omega,Ga,Ga,Ga,Ga];exact this.2.1;rw[show(i+1)*4+2=i*4+2+1+1+1+1 by omega,Ga,Ga,Ga,Ga];exact this.2.2.1;rw[show(i+1)*4+3=i*4+3+1+1+1+1 by omega,Ga,Ga,Ga,Ga];exact this.2.2.2
 have s:∀j,j<n*4->w.cell? (iB g j)=(mF m)[j]?:=λj J=>by
  rw[rB.cell (show rB w g p e from C) j,<-Yd,<-y,Jb J]
 refine La ⟨g,0,p,e,T,v.1,G,C,H,λi q=>?_⟩;have o:i<cB m:=by omega
 have D:u[i]=m[i].t:=by simp only[<-A,List.getElem_map]
 obtain⟨c,d,f,k⟩:=I m i o;rw[D];refine⟨m[i].a1,m[i].c1,m[i].a2,m[i].c2,?_,?_,?_,?_,(B i o).1,(B i o).2⟩;rw[Ya,s _ (by omega)];exact c;rw[Ya,s _ (by omega)];exact d;rw[Ya,s _ (by omega)];exact f;rw[Ya,s _ (by omega)];exact k
def gk(v:Int):∀k,CW v k=v / 2 ^ (8*k)
 |0=>by simp[CW]
 |k+1=>by
  rw[CW,gk v k,show 8*(k+1)=8*k+8 by omega,Int.pow_add,Int.ediv_ediv_of_nonneg (Int.pow_nonneg (by omega))];rfl
def el(v:Int):∀n i,i<n->(vX v n)[i]?=fA (CW v (n-1-i) % 256)
 |0,i,h=>absurd h (by omega)
 |n+1,0,_=>by simp[vX]
 |n+1,i+1,h=>by
  rw[vX,Ga,el v n i (by omega)];congr 3;omega
theorem oH(n:Nat)(v:Int)(w:World)(J:n<=8):
 Calls prog 91 #[dB v,dB n] w λe F=>e=.returned (.string (uB n v))/\Below w.1.size w F:=by
 obtain⟨C,y,B⟩:∃C:Array Value,C.size=n/\(Instr.makeSlice 22 (dB n) (dB n)).run prog w=.ok (.slice (cC w.1.size) n n) (w.alloc (.cells C 5)):=by
  obtain⟨E,m,o,q,r⟩:=LR;have h:=run_make (P:=prog) w 22 5 E _ underlying22 m o .i64 .i64 (n:Int) (n:Int) (by omega) (by omega) (by rw[r];omega) (by omega);rw[q,Hd,Nat.mul_one]at h;exact⟨_,size_madeCells _ _,h⟩
 have t:fB (rB (w.alloc (.cells C 5)) w.1.size C 5):=heap_alloc_new _ _;go_enter func91,ntmps91;go_wp2;go_loopw [6,11] (λ_ c wr=>∃(k:Nat)(b:Array Value),k<=n/\c=dB k/\fB (rB wr w.1.size b 5)/\b.size=n/\fB (∀i,i<k->b[n-1-i]?=some (.int .u8 (CW v i % 256)))/\fB (Below w.1.size w wr)) (λ_ c _=>n-(intOf c).toNat)
 case atStart=>exact⟨0,C,by omega,rfl,t,y,λi l=>absurd l (by omega),aC⟩
 case round=>
  obtain⟨k,b,I,rfl,a,j,f,d⟩:=hrel;by_cases A:k<n
  .obtain ⟨p,K,g⟩:∃p:Nat,(n:Int)-1-(k:Int)=(p:Int)/\fB (p=n-1-k):=⟨n-1-k,by omega,rfl⟩
   have G:wr.cell? (iB w.1.size p)=some (b[p]'(by have:=g.o;omega)):=by rw[a.o.cell];exact Qc _
   have H:=a.o.free p;go_wp2;refine⟨⟨k+1,b.setIfInBounds p (.int .u8 (v / 2 ^ (8*k) % 256)),by omega,by go_num,a.o.set p _,by simp[j],?_,d.o.setCell (p:=(iB w.1.size p)) (Ia _) _⟩,by simp[intOf];omega⟩;intro i l;have D:=g.o;rw[Eb];split
   .rename_i e;have u:i=k:=by omega
    subst u;rw[Ma (by omega),gk]
   .rename_i e;exact f.o i (by omega)
  .have e:k=n:=by omega
   subst e;have z:(convert 22 9 (.slice (cC w.1.size) k k)).run prog wr=.ok (.string (uB k v)) wr:=by
    refine run_convert_bytes_arg wr 22 5 underlying22 underlying5 w.1.size 0 _ _ (vX v k) (dZ v k) (λi l=>?_) 9 underlying9;rw[a.o.cell,Ya];have s:=f.o (k-1-i) (by omega);rw[show k-1-(k-1-i)=i by omega]at s;rw[s];have x:=el v k i (by omega);simp[List.getD,x]
   go_wp2;go_ret;exact⟨rfl,d.o⟩
def LT{a b:vB}(h:a=b):Ending.returned (tA a)=.returned (tA b):=by rw[h]
def RH(p:vB)(w:jA)(d:p.size<=maxLen):
 gF 209 #[tA p] w (tA (pF p)):=by
 by_cases h:1<=p.size/\p.size<=60000
 .have i:dC (p.size:Int) 1 60000=iA:=by unfold dC;simp;omega
  have E:fB (pF p=uB 4 p.size++uB 4 (qK p:Nat)++p):=Ma h;have k:=oB 4 (p.size:Int);have l:=oB 4 ((qK p:Nat):Int);have m:=pe p;have n:=h.2;have g:fB (p.size<=maxLen):=d;clear d h;go_enter func209,ntmps209;go_wp2_with(go_at_call 103;apply dR (zD _ _ _ _));refine oC (oD 4 (p.size:Int) _ (by omega) (by omega) (by omega)) ?_;intro o a;go_wp2_with fail;apply dR (KL p _ g.o);go_wp2_with fail;refine oC (oD 4 ((qK p:Nat):Int) _ (by omega) (by omega) (by omega)) ?_;intro j b;generalize uB 4 (p.size:Int)=A at *;generalize uB 4 ((qK p:Nat):Int)=B at *;have f:fB (zB w j):=xB a b;clear a b;go_wp2;go_ret;exact⟨LT E.o.symm,f.o⟩
 have i:dC (p.size:Int) 1 60000=gA:=by unfold dC;simp;omega
 have E:fB (pF p=pA):=Ja h;go_enter func209,ntmps209;go_wp2_with(go_at_call 103;apply dR (zD _ _ _ _));go_ret;exact⟨LT E.o.symm,jD⟩
def cy:(prog.info? 56).map (λi=>(i.zero,i.size,i.bytes))=fA (fA (.agg #[dB 0,tA pA,tA pA,dB 0]),4,48):=by kernel_rfl
