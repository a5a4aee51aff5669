import Derived.Test.YtabgbmfcbobamaaGreatDoorJ06
import Derived.Test.YtabgbmfcbobamaaGreatDoorJ05
set_option maxRecDepth 100000
set_option maxHeartbeats 2000000
namespace Go.Proofs.YtabgbmfcbobamaaGreatDoor
open Go.RowKit Tryz
theorem cK {C:Array Oper} {d:List Oper} {o:Oper} {a:Act} {Q:Exit->Act->World->Prop} {w:World} (q:o.guard=none) (s x:Operand) {l T:TypeId} {z:Value} {sz b:Nat}
 (J:o.op=.call { callee:=.builtin .append,args:=#[s,x],argTypes:=#[l,l] }) (M:prog.underlying l=some (.slice T)) (r:(prog.info? T).map (fun i=>(i.zero,i.size,i.bytes))=some (some z,sz,b)) (O:z.cells.size=sz) (D:0<sz) (F:b<=100)
 {B n:Nat} {v:Value} {y:List Value} {cs:Array Value} (L:a.eval s=v) (A:w.ownsRow B T sz v n y) {p:Nat} (N:a.eval x=.slice (some ⟨p,0,none⟩) 1 1) (K:w.heap.size=p) (G:cs.size=sz) (E:∀u∈cs.toList,u.oneCell'=true) (I:n<=5000000) (U:B<=w.heap.size)
 (h:∀g c k,Hid (k.ownsRow B T sz (.slice (some ⟨g,0,none⟩) (n+1) c) (n+1) (y++cs.toList))->Hid (gA (fun i=>B<=i/\v.ownBlock=some i) w k)->Hid (v.ownBlock=some g\/w.heap.size<=g)->wpList prog C Q d (a.put o.dst (.slice (some ⟨g,0,none⟩) (n+1) c)) k):
 wpList prog C Q (o::d) a (w.alloc (.cells cs T)):=by
 subst K;obtain⟨i,r,P,R,S⟩:=info_parts r;have H:(n+1)*b<=140737488355328:=Ra (De (Qg I 1) F) (by decide);refine wpList_append_lies _ q s x _ J B T i z sz b M r P R S O D v n y L (World.ownsRow.alloc A _) ⟨w.heap.size,0,none⟩ 1 1 cs.toList N (by simpa using G) (by
  have:=World.news_of_block (cs:=cs) (t:=T) (fr:=(0,0)) (heap_alloc_new w (.cells cs T));simpa using this) E (by omega) (by simp[maxLen];omega) H (by simp;omega) (w.heap.size+1) (by simp) ?_
 intro g c k j f m _;exact h g c k j ((gA.of (cA w (.cells cs T))).trans' ((gA.grown f).mono fun i _ e=>⟨(A.lt i e).1,e⟩)) (m.imp_right fun e=>by rw[e];simp)
theorem gN {l:Array Oper} {c:List Oper} {o:Oper} {a:Act} {Q:Exit->Act->World->Prop} {w:World} (k:o.guard=none) (s x:Operand) {f T:TypeId} {z:Value} {sz d:Nat}
 (E:o.op=.call { callee:=.builtin .append,args:=#[s,x],argTypes:=#[f,f] }) (I:prog.underlying f=some (.slice T)) (A:(prog.info? T).map (fun i=>(i.zero,i.size,i.bytes))=some (some z,sz,d)) (K:z.cells.size=sz) (q:0<sz) (y:d<=100)
 {B n:Nat} {v:Value} {m:List Value} {cs:Array Value} (H:a.eval s=v) (G:w.ownsRow B T sz v n m) {p:Nat} (J:a.eval x=.slice (some ⟨p,0,none⟩) 1 1) (F:w.heap.size=p) (C:cs.size=sz) (j:∀u∈cs.toList,u.oneCell'=true) (D:n<=5000000) (t:B<=w.heap.size)
 (h:∀g b e,Hid (e.ownsRow B T sz (.slice (some ⟨g,0,none⟩) (n+1) b) (n+1) (m++cs.toList))->Hid (gA (fun i=>B<=i/\v.ownBlock=some i) w e)->wpList prog l Q c (a.put o.dst (.slice (some ⟨g,0,none⟩) (n+1) b)) e):
 wpList prog l Q (o::c) a (w.alloc (.cells cs T)):=
 cK k s x E I A K q y H G J F C j D t fun g b e j r _=>h g b e j r
theorem pD {P:Program} {f:FuncId} {args:Array Value} {w:World} {E:Ending} {Q:Ending->World->Prop} (h:Calls P f args w fun e a=>e=E/\a=w) (k:Q E w):Calls P f args w Q:=h.mono (by rintro _ _ ⟨rfl,rfl⟩;exact k)
theorem OO {w b:World} {g:Nat} {c d e f:Value} (h:b.heap[g]?=w.heap[g]?) (q:w.cell? ⟨g,0,none⟩=some c/\w.cell? ⟨g,1,none⟩=some d/\w.cell? ⟨g,2,none⟩=some e/\w.cell? ⟨g,3,none⟩=some f):b.cell? ⟨g,0,none⟩=some c/\b.cell? ⟨g,1,none⟩=some d/\b.cell? ⟨g,2,none⟩=some e/\b.cell? ⟨g,3,none⟩=some f:=by
 simp only[World.cell?_of_block (a:=⟨g,_,none⟩) h];exact q
theorem pT {wr c:World} {N B n sz:Nat} {t E:TypeId} {cs:Array Value} {g:List Value} {v a:Value} (h:eA wr N cs t) (f:gA (fun j=>B<=j/\v.ownBlock=some j) wr c) (d:c.ownsRow B E sz a n g) (l:N<B) (i:Nat):
 eA (c.setCell ⟨N,i,none⟩ a) N (cs.setIfInBounds i a) t/\(c.setCell ⟨N,i,none⟩ a).ownsRow B E sz a n g/\gA (fun j=>j=N\/B<=j/\v.ownBlock=some j) wr (c.setCell ⟨N,i,none⟩ a):=
 ⟨(f.blk h (fun e=>by omega)).set i a,((gA.refl (·=N) c).setCell (Ca rfl) i _).row d (fun b k e=>by have:=(d.lt b k).1;omega),(f.mono fun i _ e=>Ja e).trans' (((gA.refl (·=N) c).setCell (Ca rfl) i a).mono fun i _ e=>Ca e)⟩
theorem nX {U:Array Oper} {o:Oper} {a:Act} {K:Act->World->Prop} {Q:Exit->Act->World->Prop} {E:Prop} {w:World} (m:o.guard=none) (s x:Operand) {k T:TypeId} {z:Value} {sz b:Nat}
 (I:o.op=.call { callee:=.builtin .append,args:=#[s,x],argTypes:=#[k,k] }) (M:prog.underlying k=some (.slice T)) (q:(prog.info? T).map (fun i=>(i.zero,i.size,i.bytes))=some (some z,sz,b)) (O:z.cells.size=sz) (A:0<sz) (D:b<=100)
 {B n:Nat} {v:Value} {r:List Value} {cs:Array Value} (L:a.eval s=v) (y:w.ownsRow B T sz v n r) {p:Nat} (N:a.eval x=.slice (some ⟨p,0,none⟩) 1 1) (J:w.heap.size=p) (F:cs.size=sz) (C:∀u∈cs.toList,u.oneCell'=true) (H:n<=1000000000) (V:B<=w.heap.size)
 (h:∀g c j,Hid (j.ownsRow B T sz (.slice (some ⟨g,0,none⟩) (n+1) c) (n+1) (r++cs.toList))->Hid (gA (fun i=>B<=i/\v.ownBlock=some i) w j)->Hid (v.ownBlock=some g\/w.heap.size<=g)->K (a.put o.dst (.slice (some ⟨g,0,none⟩) (n+1) c)) j):
 if Region.wanted o (yielded U a.tmps)=true then Oper.wp prog o a (w.alloc (.cells cs T)) K Q else E:=by
 subst J;obtain⟨i,q,P,R,S⟩:=info_parts q;have G:(n+1)*b<=140737488355328:=Ra (De (Qg H 1) D) (by decide);refine step_append_lies _ m s x _ I B T i z sz b M q P R S O A v n r L (World.ownsRow.alloc y _) ⟨w.heap.size,0,none⟩ 1 1 cs.toList N (by simpa using F) (by
  have:=World.news_of_block (cs:=cs) (t:=T) (fr:=(0,0)) (heap_alloc_new w (.cells cs T));simpa using this) C (by omega) (by simp[maxLen];omega) G (by simp;omega) (w.heap.size+1) (by simp) ?_
 intro g c j f d l _;exact h g c j f ((gA.of (cA w (.cells cs T))).trans' ((gA.grown d).mono fun i _ e=>⟨(y.lt i e).1,e⟩)) (l.imp_right fun e=>by rw[e];simp)
theorem kP {X:Array Oper} {o:Oper} {a:Act} {K:Act->World->Prop} {Q:Exit->Act->World->Prop} {E:Prop} {w:World} (t:o.guard=none) (s x:Operand) {l T:TypeId} {z:Value} {sz d:Nat}
 (M:o.op=.call { callee:=.builtin .append,args:=#[s,x],argTypes:=#[l,l] }) (P:prog.underlying l=some (.slice T)) (v:(prog.info? T).map (fun i=>(i.zero,i.size,i.bytes))=some (some z,sz,d)) (S:z.cells.size=sz) (C:0<sz) (I:d<=100)
 {B f n q:Nat} {y:List Value} (O:a.eval s=.slice (some ⟨f,0,none⟩) n q) (N:w.ownsRow B T sz (.slice (some ⟨f,0,none⟩) n q) n y) {p:Option Addr} {m A:Nat} (b:List Value) (R:a.eval x=.slice p m A) (J:b.length=m*sz) (j:iS w p m b) (r:∀u∈b,u.oneCell'=true) (L:n+m<=1000000000) (H:B<=w.heap.size)
 (h:∀g c e,e.ownsRow B T sz (.slice (some ⟨g,0,none⟩) (n+m) c) (n+m) (y++b)->Below B w e->(∀k,k<w.heap.size->k≠f->e.heap[k]?=w.heap[k]?)->(g=f\/g=w.heap.size)->K (a.put o.dst (.slice (some ⟨g,0,none⟩) (n+m) c)) e):
 if Region.wanted o (yielded X a.tmps)=true then Oper.wp prog o a w K Q else E:=by
 obtain⟨i,v,U,V,W⟩:=info_parts v;exact tH w t s x _ M B T i z sz d P v U V W S C f n q y O N p m A b R J j r (by simp[maxLen];omega) (Ra (De L I) (by decide)) H fun g c e r D F _ G _=>h g c e r D F G
theorem lG {P:Program} {w:World} {b:Array Oper} {o:Oper} {a:Act} {K:Act->World->Prop} {Q:Exit->Act->World->Prop} {E:Prop} {f:FuncId} {args:Array Value} (c:o.guard=none) (i:(execOp a.eval o).run P w=.ok (.enter f args) w)
 (h:Calls P f args w (fun e d=>(∃v,e=.returned v/\K (a.put o.dst v) d)\/∃p,e=.panicked p/\Q (.panic p) a d)):if Region.wanted o (yielded b a.tmps)=true then Oper.wp P o a w K Q else E:=by
 have hw:Region.wanted o (yielded b a.tmps)=true:=by simp[Region.wanted,c]
 rw[Qa hw];unfold Oper.wp;rw[i];refine h.mono ?_;rintro e d (⟨v,rfl,g⟩|⟨p,rfl,g⟩)<;>exact g
theorem wV:(prog.info? 107).map (fun i=>(i.zero,i.size,i.bytes))=some (some (.agg #[.string ⟨#[]⟩,.int .i64 0]),2,24):=by kernel_rfl
theorem BD:(prog.info? 109).map (fun i=>(i.zero,i.size,i.bytes))=some (some (.agg #[.string ⟨#[]⟩,.int .i64 0]),2,24):=by kernel_rfl
theorem tS {W:World} {B:Nat} {e:TypeId} {size:Nat} {v:Value} {n:Nat} {f:List Value} (h:W.ownsRow B e size v n f):∃a c,v=.slice a n c:=by
 rcases h.2 with⟨rfl,rfl⟩|⟨g,b,d,rfl,_⟩
 ·exact⟨none,0,rfl⟩
 ·exact⟨_,_,rfl⟩
theorem uo:(prog.info? 156).map (fun i=>(i.zero,i.size,i.bytes))=some (some (.agg #[.string ByteArray.empty,.string ByteArray.empty]),2,32):=by kernel_rfl
theorem YL:(prog.info? 126).map (fun i=>(i.zero,i.size,i.bytes))=some (some (.agg #[.slice none 0 0,.int .i64 0]),2,32):=by kernel_rfl
def zN (r:Rd):mA×Rd:=(⟨(oA 1 r).1,(oA 2 (oA 1 r).2).1⟩,(oA 2 (oA 1 r).2).2)
def yH (r:Rd):Nat->List mA×Rd
 |0=>([],r)
 |k+1=>((yH r k).1++[(zN (yH r k).2).1],(zN (yH r k).2).2)
def JS (a:ByteArray):Nat:=(zA 1 ⟨a,false⟩).1
def qE (a:ByteArray):List mA×Rd:=yH (zA 1 ⟨a,false⟩).2 (JS a)
def eS (r:Rd):Bool:=!r.r9&&(r.rest.toList==ByteArray.empty.toList)
def dE (a:ByteArray):List mA×Bool:=if (eS (qE a).2&&iO (qE a).1)=true then((qE a).1,true) else([],false)
theorem dX (r:Rd):zN r=(⟨(oA 1 r).1,(oA 2 (oA 1 r).2).1⟩,(oA 2 (oA 1 r).2).2):=by rw[zN]
theorem fQ (r:Rd) (k:Nat):yH r (k+1)=((yH r k).1++[(zN (yH r k).2).1],(zN (yH r k).2).2):=by rw[yH]
theorem kU (r:Rd):∀k,(yH r k).1.length=k
 |0=>rfl
 |k+1=>by rw[yH];simp[kU r k]
theorem og {r:Rd} (h:(zN r).2.r9=false):r.r9=false/\r.rest=oK (zN r).1.name++nD (zN r).1.value++(zN r).2.rest:=by
 obtain⟨c,d⟩:=MQ (k:=2) (r:=(oA 1 r).2) h;obtain⟨a,b⟩:=MQ (k:=1) (r:=r) c;refine⟨a,?_⟩;rw[b,d];apply wK;simp[zN,oK,nD]
theorem vo {r:Rd} {l:mA} {q:ByteArray} (h:r.rest=oK l.name++nD l.value++q) (c:l.name.size<256) (d:l.value.size<65536):zN r=(l,⟨q,r.r9⟩):=by
 have e:r.rest=fA 1 (l.name.size:Nat)++(l.name++(nD l.value++q)):=by
  rw[h];apply wK;simp[oK]
 have a:=qK e (by omega);have b:oA 2 (oA 1 r).2=(l.value,⟨q,r.r9⟩):=by
  rw[a];exact qK (r:=⟨nD l.value++q,r.r9⟩) (by show nD l.value++q=_;apply wK;simp[nD]) (by omega)
 rw[zN,b,a]
theorem wt {r:Rd} (k:Nat):(yH r k).2.r9=false->r.r9=false/\r.rest=cC (yH r k).1++(yH r k).2.rest:=by
 induction k with
 |zero=>
  intro h;refine⟨h,?_⟩;show r.rest=ByteArray.empty++r.rest;apply wK;simp
 |succ k f=>
  intro h;rw[fQ]at h |-
  simp only at h |-
  obtain⟨d,e⟩:=og h;obtain⟨b,c⟩:=f d;refine⟨b,?_⟩;generalize yH r k=R at *;generalize zN R.2=L at *;rw[c,e,wL];have a:cC [L.1]=oK L.1.name++nD L.1.value:=by
   show oK L.1.name++nD L.1.value++ByteArray.empty=_;apply wK;simp
  rw[a];apply wK;simp
def rx (a:List mA):Prop:=∀i (h:i<a.length),a[i].name.size<256/\a[i].value.size<65536
theorem UX {r:Rd} {a:List mA} {q:ByteArray} (h:r.rest=cC a++q) (b:rx a):∀k,k<=a.length->yH r k=(a.take k,⟨cC (a.drop k)++q,r.r9⟩)
 |0,_=>by
  cases r
  simp only at h;simp[yH,h]
 |k+1,f=>by
  have d:=UX h b k (by omega);have e:cC (a.drop k)++q=oK a[k].name++nD a[k].value++(cC (a.drop (k+1))++q):=by
   rw[Kb (by omega)];apply wK;simp[cC]
  have c:=vo (r:=⟨cC (a.drop k)++q,r.r9⟩) e (b k (by omega)).1 (b k (by omega)).2;rw[fQ,d,c,Ma (by omega)]
theorem MD (s:ByteArray):∀(b p:Nat) (l:List Nat),s.size<=p+b->eH s b p=some l->s.size<=p+4*l.length
 |0,p,l,c,_=>by omega
 |b+1,p,l,c,h=>by
  rw[eH]at h;split at h
  ·split at h
   ·exact absurd h (by simp)
   ·obtain⟨l',a,rfl⟩:=Ub.1 h;have d:=lT s p;have e:=(oV s p).2;have:=MD s b _ l' (by omega) a;simp;omega
  ·omega
theorem ym {s:ByteArray} (h:dN s=0):s.size<=512:=by
 unfold dN at h;split at h
 ·exact absurd h (by simp)
 ·rename_i l a;unfold SZ at h;split at h
  ·exact absurd h (by simp)
  ·have:=MD s s.size 0 l (by omega) a;omega
theorem dY:∀(b:List mA) (j:Nat),kC b j=none->∀i (h:i<b.length),fU b[i]=0
 |[],_,_,i,h=>absurd h (by simp)
 |l::r,j,a,i,h=>by
  rw[kC]at a;split at a
  ·rename_i c;cases i with
   |zero=>exact c
   |succ i=>exact dY r _ a i (by simpa using h)
  ·exact absurd a (by simp)
theorem FG:∀(l:List mA) (j c i:Nat),kC l j=some (c,i)->c≠0
 |[],_,_,_,h=>by simp[kC]at h
 |x::r,j,c,i,h=>by
  rw[kC]at h;split at h
  ·exact FG r _ _ _ h
  ·rename_i a;simp only[Pa,Hc]at h;rw[<-h.1];exact a
theorem uW {a:List mA} (h:iO a=true):rx a:=by
 have k:=ta h;have j:=JK h;have f:(pA a).2.1=0:=by rw[k]
 have b:kC a 0=none:=by
  cases b:kC a 0 with
  |none=>rfl
  |some g=>
   obtain⟨c,i⟩:=g;rw[DE (by omega) b]at f;exact absurd f (FG a 0 c i b)
 intro i l;have d:=dY a 0 b i l;unfold fU at d;split at d
 ·rename_i m;have e:UL a[i].name:=by simpa[LC]using m
  have:=ym d;exact⟨by have:=e.2.1;omega,by omega⟩
 ·exact absurd d (by simp)
theorem ud {a:List mA} (h:iO a=true):dE (nI a)=(a,true):=by
 have c:=JK h;have i:=uW h;have b:uB 1 ⟨nI a,false⟩=(fA 1 (a.length:Nat),⟨cC a,false⟩):=dT rfl (iA 1 _);have f:JS (nI a)=a.length:=by
  show jN (uB 1 ⟨nI a,false⟩).1.data.toList=_;rw[b];exact cI 1 a.length (by omega)
 have g:(zA 1 ⟨nI a,false⟩).2=⟨cC a,false⟩:=by
  show(uB 1 ⟨nI a,false⟩).2=_;rw[b]
 have d:qE (nI a)=(a,⟨ByteArray.empty,false⟩):=by
  unfold qE;rw[f,g];have e:=UX (r:=⟨cC a,false⟩) (q:=ByteArray.empty) (by apply wK;simp) i a.length (Ka _);rw[e,Wb,List.drop_length];simp[cC]
 unfold dE;rw[d];simp only;rw[Qa (by simp[eS,h])]
theorem SR {a:ByteArray} (h:(dE a).2=true):iO (dE a).1=true/\nI (dE a).1=a:=by
 unfold dE at h |-
 split at h
 ·rename_i hw;rw[Qa hw];rw[Sa]at hw;refine⟨hw.2,?_⟩;have b:=hw.1;unfold eS at b;rw[Sa]at b;have f:(qE a).2.r9=false:=by simpa using b.1
  have d:(qE a).2.rest=ByteArray.empty:=toList_inj (by simpa using b.2);obtain⟨i,j⟩:=wt (r:=(zA 1 ⟨a,false⟩).2) (JS a) f;obtain⟨o,l,m⟩:=sG (n:=1) (r:=⟨a,false⟩) i;have k:(qE a).1.length=JS a:=kU _ _;have e:fA 1 ((qE a).1.length:Nat)=(uB 1 ⟨a,false⟩).1:=by
   rw[k];have:=jt (uB 1 ⟨a,false⟩).1.data.toList 1 (by rw[<-pH];exact l);show fA 1 (jN (uB 1 ⟨a,false⟩).1.data.toList:Nat)=_;rw[this]
  show fA 1 ((qE a).1.length:Nat)++cC (qE a).1=a;have c:(uB 1 ⟨a,false⟩).2.rest=cC (qE a).1++(qE a).2.rest:=j;have g:a=(uB 1 ⟨a,false⟩).1++(uB 1 ⟨a,false⟩).2.rest:=m;rw[e];conv=>rhs;rw[g,c,d]
  apply wK;simp
 ·exact absurd h (by simp)
theorem IM {a:ByteArray} (h:(dE a).2=false):dE a=([],false)/\∀b,iO b=true->nI b≠a:=by
 refine⟨?_,fun b c e=>?_⟩
 ·unfold dE at h |-
  split at h
  ·exact absurd h (by simp)
  ·rename_i hw;rw[Oa hw]
 ·rw[<-e,ud c]at h;exact absurd h (by simp)
theorem UW (r:Rd) (k:Nat):(yH r k).2.rest.size<=r.rest.size/\∀i (h:i<(yH r k).1.length),(yH r k).1[i].name.size<=r.rest.size/\(yH r k).1[i].value.size<=r.rest.size:=by
 induction k with
 |zero=>exact⟨Ka _,fun i h=>absurd h (by simp[yH])⟩
 |succ k d=>
  have g:=yG 1 (yH r k).2;have j:=yG 2 (oA 1 (yH r k).2).2;rw[fQ,dX];generalize yH r k=R at *;generalize oA 1 R.2=a at *;generalize oA 2 a.2=b at *;refine⟨by have:=d.1;simp only;omega,fun i f=>?_⟩;simp only at f;by_cases e:i<R.1.length
  ·simp only[Be e];exact d.2 i e
  ·have c:i=R.1.length:=by simp at f;omega
   subst c;simp only[List.getElem_concat_length];have:=d.1;exact⟨by omega,by omega⟩
theorem pi (a:ByteArray):∀i (h:i<(qE a).1.length),(qE a).1[i].name.size<=a.size/\(qE a).1[i].value.size<=a.size:=by
 intro i e;have b:=(UW (zA 1 ⟨a,false⟩).2 (JS a)).2 i e;have d:=(xG 1 ⟨a,false⟩).2.2;have c:(zA 1 ⟨a,false⟩).2.rest.size<=a.size:=d;exact⟨Ra b.1 c,Ra b.2 c⟩
def RQ (w:World) (a:Option Addr) (l:List Int):Prop:=l=[]\/∃b o,a=some ⟨b,o,none⟩/\b<w.heap.size/\∀i (h:i<l.length),w.cell? ⟨b,o+i,none⟩=some (.int .i64 l[i])
theorem RQ.at {w:World} {a:Option Addr} {l:List Int} (h:RQ w a l) {i:Nat} (d:i<l.length):∃b o,a=some ⟨b,o,none⟩/\b<w.heap.size/\w.cell? ⟨b,o+i,none⟩=some (.int .i64 l[i]):=by
 rcases h with rfl|⟨b,o,rfl,c,h⟩
 ·exact absurd d (by simp)
 ·exact⟨b,o,rfl,c,h i d⟩
theorem ZV {w:World} {B:Nat} {e:TypeId} {a:Option Addr} {c:Nat} {l:List Int} (h:w.ownsRow B e 1 (.slice a l.length c) l.length (l.map (Value.int .i64))):RQ w a l:=by
 rcases h.2 with⟨_,o⟩|⟨g,f,b,k,q,m,_,_,p,d⟩
 ·exact Ca (Qb.1 o)
 ·simp only[Value.slice.injEq]at k;refine Ja ⟨g,0,k.1,aA m,fun i n=>?_⟩;rw[Wa,cell_of_row w g i b _ _ m];have j:(b.toList.take (l.length*1))[i]?=(l.map (Value.int .i64))[i]?:=by rw[d]
  rw[Mb (by omega)]at j;rw[<-Zd,j];simp[Va n]
theorem us:∃i,prog.info? 3=some i/\i.zero=some (.int .i64 0)/\i.size=1/\i.bytes=8:=by
 have h:(prog.info? 3).map (fun i=>(i.zero,i.size,i.bytes))=some (some (.int .i64 0),1,8):=by kernel_rfl
 obtain⟨i,b,a⟩:=Ub.1 h;simp only[Hc]at a;exact⟨i,b,a.1,a.2.1,a.2.2⟩
def IE (a:List Nat):List Int:=a.map fun(r:Nat)=>(r:Int)
theorem MC (a:List Nat):(IE a).length=a.length:=by simp[IE]
theorem qe (a:List Nat) (r:Nat):IE (a++[r])=IE a++[(r:Int)]:=by simp[IE]
theorem zr (r:Nat) (h:¬r<32):xA (r:Int) 127 159=ctl r:=by
 unfold xA ctl;rw[Sb];simp;omega
theorem lj (l:List Nat) (k:Nat) (h:k<l.length):l.any ctl=((l.take k).any ctl||(ctl l[k] ||(l.drop (k+1)).any ctl)):=by
 have e:=Ya k l;rw[Kb h]at e;rw[<-List.any_cons,<-Dg,e]
theorem GM (s:ByteArray) (w:World) (hs:s.size<=1000000000):
 Calls prog 145 #[.string s] w fun e w'=>e=.returned (.int .i64 (dN s:Nat))/\Below w.heap.size w w':=by
 obtain⟨ti,K,Y,Z,a0⟩:=us;have HI:Hid _:=K;clear K;go_enter func145,ntmps145;go_wp2;go_loopw [3,4,5,6] (fun b0 x _ _ wr=>∃(p:Nat) (a:List Nat) (F:Option Addr) (M:Nat),p<=s.size/\a.length<=p/\Hid (rX s p a/\∀i (h:i<a.length),a[i]<=1114111)/\x=.int .i64 p/\b0=.slice F a.length M/\Hid (wr.ownsRow w.heap.size 3 1 (.slice F a.length M) a.length ((IE a).map (Value.int .i64)))/\Below w.heap.size w wr) (fun _ x _ _ _=>s.size-(intOf x).toNat)
 case atStart=>
  exact⟨0,[],_,_,La _,La _,⟨rX.start s,fun i h=>absurd h (by simp)⟩,rfl,rfl,World.ownsRow_made w #[] 0 (Ka _) (by simp[maxLen]) (by simp),cA _ _⟩
 case round=>
  obtain⟨p,a,F,M,hp,hac,B,rfl,rfl,f,c⟩:=hrel;have hsz:=c.size;by_cases A:p<s.size
  ·have hz:(s.extract p s.size).size=s.size-p:=by simp
   have d:=fun W=>VL (s.extract p s.size) W (by omega) (by unfold maxLen;omega);rw[aEn]at d;by_cases y:Utf8.decode s p=(65533,1)
   ·rw[Qa y]at d;have v:Hid (∀W,Calls prog 160 #[.string (s.extract p s.size)] W fun e w'=>e=.returned (.tuple #[.int .i64 0,.int .i64 0])/\w'=W):=d;have D:Hid _:=B.out.1.bad A y;clear d y hz;go_wp2_with fail;refine(v.out _).mono ?_;rintro e w1 ⟨rfl,hw⟩;replace hw:=hw.symm;subst hw;go_wp2;go_ret;exact⟨zF (by rw[D.out];rfl),c⟩
   ·rw[Oa y]at d;have hpos:=lT s p;have hfit:=FC s p A y;have J:=oV s p;have S:Hid (rX s (p+(Utf8.decode s p).2) (a++[(Utf8.decode s p).1])):=B.out.1.step A y;generalize (Utf8.decode s p).1=R at *;generalize (Utf8.decode s p).2=N at *;have v:Hid _:=d;have hn0:((N:Int)==0)=false:=by simp;omega
    obtain⟨V,hr2⟩:=J;clear d y hz;go_wp2_with fail;refine(v.out _).mono ?_;rintro e w1 ⟨rfl,hw⟩;replace hw:=hw.symm;subst hw;go_wp2_with(at_builtin;refine wpList_append_lies _ rfl _ _ _ rfl w.heap.size 3 ti _ 1 8 underlying35 HI.out Y Z a0 rfl (by omega) (.slice F a.length M) a.length ((IE a).map (Value.int .i64)) rfl (by exact vA f.out (cA _ _)) ⟨wr.heap.size,0,none⟩ 1 1 [.int .i64 (R:Int)] rfl rfl (by exact World.news_of_block (heap_alloc_new _ _)) (by simp[Value.oneCell']) (by omega) (by simp[maxLen];omega) (by omega) (by simp;omega) (wr.heap.size+1) (by simp) ?_;intro g5 G w5 l n hat5 hlt5);have T:Below w.heap.size w w5:=(nA c (cA _ _)).grown n (by simp;omega) (fun q O=>by
     rcases f.out.2 with⟨U,_⟩|⟨g,cap,cur,U,hB,_⟩
     ·rw[U]at O;simp[Value.ownBlock]at O
     ·rw[U]at O;simp[Value.ownBlock]at O;omega)
    have X:(IE a).map (Value.int .i64)++[Value.int .i64 (R:Int)]=(IE (a++[R])).map (Value.int .i64):=by simp[qe]
    have z:(a++[R]).length=a.length+1:=by simp
    rw[X,<-z]at l;refine⟨⟨p+N,a++[R],some ⟨g5,0,none⟩,G,by omega,by rw[z];omega,⟨S.out,fun i hi=>?_⟩,by go_num,by rw[z],l,T⟩,by simp[intOf];omega⟩;by_cases e:i<a.length
    ·rw[Be e];exact B.out.2 i e
    ·rw[Pe (by omega)];simp;exact V
  ·have D:Hid _:=B.out.1.done (by omega);by_cases t:128<a.length
   ·have m:Hid (dN s=43):=by show _=_;rw[D.out,SZ,Qa t]
    go_wp2;go_ret;exact⟨zF (by rw[m.out];rfl),c⟩
   ·have m:Hid (dN s=if a.any ctl=true then 44 else 0):=by show _=_;rw[D.out,SZ,Oa t]
    have HN:Hid (RQ wr F (IE a)):=ZV (by rw[MC];exact f.out);have HA:Hid _:=B.out.2;clear f B D;go_wp2;go_loop [8,35] (fun _ i=>∃k:Nat,k<=a.length/\i=.int .i64 k/\Hid ((a.take k).any ctl=false)) (fun _ i=>a.length-(intOf i).toNat)
    case atStart=>exact⟨0,La _,rfl,by show _=_;simp⟩
    case round=>
     obtain⟨k,hk,rfl,HK⟩:=hrel;by_cases j:k<a.length
     ·obtain⟨b,o,rfl,hb,c0⟩:=HN.out.at (i:=k) (by rw[MC];exact j)
      have hr:=HA.out k j;have e0:(IE a)[k]'(by rw[MC];exact j)=((a[k]:Nat):Int):=by simp[IE]
      rw[e0]at c0;have r:Hid (ctl a[k]=true->dN s=44):=fun h=>by rw[m.out,lj a k j,h];simp
      have Q:Hid (ctl a[k]=false->(a.take (k+1)).any ctl=false):=fun h=>by rw[Ma j,Dg,HK.out];simp[h]
      have P:=zr a[k];clear e0;generalize a[k]=R at *;by_cases H:R<32
      ·have E:Hid (ctl R=true):=by show _=_;simp[ctl,H]
       clear P;go_wp2;go_ret;exact⟨zF (by rw[r.out E.out];rfl),c⟩
      ·have C:Hid _:=P H;clear P;by_cases I:ctl R=true
       ·have u:Hid _:=C.out.trans I;have L:Hid _:=I;clear I;go_wp2_with fail;refine(hC _ _ _ _).mono ?_;rintro e w1 ⟨rfl,hw⟩;rw[u.out];replace hw:=hw.symm;subst hw;go_wp2;go_ret;exact⟨zF (by rw[r.out L.out];rfl),c⟩
       ·have L:Hid (ctl R=false):=by show _=_;simpa using I
        have u:Hid _:=C.out.trans L.out;clear I;go_wp2_with fail;refine(hC _ _ _ _).mono ?_;rintro e w1 ⟨rfl,hw⟩;rw[u.out];replace hw:=hw.symm;subst hw;go_wp2;exact⟨⟨k+1,by omega,by go_num,Q.out L.out⟩,by simp[intOf];omega⟩
     ·have HV:Hid (dN s=0):=by
       show _=_;have:=HK.out;rw[Ua (by omega)]at this;rw[m.out,this];rfl
      go_wp2;go_ret;exact⟨zF (by rw[HV.out];rfl),c⟩
theorem aFc (a b:Nat) (c:a<4611686018427387904) (d:b<4611686018427387904):bits .or .i64 (a:Int) (b:Int)=((a||| b:Nat):Int):=by
 have e:a||| b<2 ^ 62:=Nat.or_lt_two_pow (by omega) (by omega)
 show IntKind.i64.wrap ((BitVec.ofInt 64 (a:Int) ||| BitVec.ofInt 64 (b:Int)).toNat:Int)=_;rw[BitVec.toNat_or,Jc,Jc,Ec,Ec,Kc (by omega),Kc (by omega)];simp only[IntKind.wrap,IntKind.bits,IntKind.signed];simp;omega
theorem aFd (a b:Nat) (e:b<256) (d:a<281474976710656):bits .or .i64 ((a:Int)*256) (b:Int)=((a*256+b:Nat):Int):=by
 have c:a*256||| b=a*256+b:=by
  have:=Lf (i:=8) (b:=b) (by omega) a;rw[show 2 ^ 8*a=a*256 by omega]at this;exact this.symm
 rw[<-c];exact aFc (a*256) b (by omega) (by omega)
theorem YH (s:ByteArray) (w:World) (l:s.size<=7):
 Calls prog 138 #[.string s] w fun e g=>e=.returned (.int .i64 (jN s.data.toList:Nat))/\g=w:=by
 go_enter func138,ntmps138;go_wp2;go_loopw [3,4,7] (fun x _ c wr=>∃(k X:Nat),k<=s.size/\c=.int .i64 k/\x=.int .i64 X/\X<256 ^ k/\Hid (X=jN (s.data.toList.take k))/\wr=w) (fun _ _ c _=>s.size-(intOf c).toNat)
 case atStart=>exact⟨0,0,by omega,rfl,rfl,by simp,by show _=_;simp[jN],rfl⟩
 case round=>
  obtain⟨k,X,i,rfl,rfl,d,b,rfl⟩:=hrel;by_cases a:k<s.size
  ·have h:=(s[k]).toNat_lt;have f:X<281474976710656:=Ib d (Zc (n:=256) (by omega) (show k<=6 by omega));have j:=aFd X (s[k]).toNat (by omega) (by omega);go_wp2;refine⟨⟨k+1,X*256+(s[k]).toNat,by omega,by go_num,?_,?_,?_,trivial⟩,by simp[intOf];omega⟩
   ·go_num
   ·rw[Md];omega
   ·show _=_;rw[lP s k a,jV,<-b.out]
  ·have e:k=s.size:=by omega
   subst e;go_wp2;go_ret;refine⟨?_,rfl⟩;show Ending.returned (.int .i64 (X:Nat))=_;rw[b.out,Ua (by simp)]
def MY (x y:ByteArray):Int:=if Op.bytesLess x.toList y.toList=true then -1 else if (x.toList==y.toList)=true then 0 else 1
theorem DO (s:ByteArray) (w:World):Calls prog 190 #[.string s] w fun e a=>e=.returned (.bool false)/\a=w:=by
 go_enter func190,ntmps190;go_wp2;go_ret;exact⟨rfl,rfl⟩
theorem WY (x y:ByteArray) (w:World):Calls prog 185 #[.string x,.string y] w fun e c=>e=.returned (.int .i64 (MY x y))/\c=w:=by
 by_cases b:Op.bytesLess x.toList y.toList=true
 ·have E:Hid (MY x y = -1):=by show _=_;simp[MY,b]
  go_enter func185,ntmps185;go_wp2_with(first|(go_at_call 190;refine(DO _ _).mono ?_;rintro e c ⟨rfl,rfl⟩));go_ret;exact⟨zF E.out.symm,rfl⟩
 have a:Op.bytesLess x.toList y.toList=false:=by simpa using b
 by_cases d:(x.toList==y.toList)=true
 ·have E:Hid (MY x y=0):=by show _=_;simp[MY,a,d]
  clear b;go_enter func185,ntmps185;go_wp2_with(first|(go_at_call 190;refine(DO _ _).mono ?_;rintro e c ⟨rfl,rfl⟩));go_ret;exact⟨zF E.out.symm,rfl⟩
 have f:(x.toList==y.toList)=false:=by simpa using d
 have E:Hid (MY x y=1):=by show _=_;simp only[MY,a,f];rfl
 clear b d;go_enter func185,ntmps185;go_wp2_with(first|(go_at_call 190;refine(DO _ _).mono ?_;rintro e c ⟨rfl,rfl⟩));go_ret;exact⟨zF E.out.symm,rfl⟩
def pS (s:ByteArray) (p n:Nat):Nat:=jN (fI s p n)
def tF (s:ByteArray) (p n:Nat):Option (ByteArray×Nat):=if p+n<=s.size/\p+n+pS s p n<=s.size then some (s.extract (p+n) (p+n+pS s p n),p+n+pS s p n) else none
theorem xc {t u:ByteArray} {a b:Int} (c:t=u) (d:a=b):Ending.returned (.tuple #[.string t,.int .i64 a])=.returned (.tuple #[.string u,.int .i64 b]):=by rw[c,d]
theorem CF (s:ByteArray) (n:Nat) (w:World):
 Calls prog 112 #[.string s,.int .i64 (-1),.int .i64 (n:Nat)] w fun e a=>e=.returned (.tuple #[.string ByteArray.empty,.int .i64 (-1)])/\a=w:=by
 go_enter func112,ntmps112;go_wp2;go_ret2;exact⟨rfl,rfl⟩
theorem cS (s:ByteArray) (p n:Nat) (w:World) (k:s.size<=1000000000) (j:p<=1000000000) (g:n<=2) (h:tF s p n=none):
 Calls prog 112 #[.string s,.int .i64 (p:Nat),.int .i64 (n:Nat)] w fun e b=>e=.returned (.tuple #[.string ByteArray.empty,.int .i64 (-1)])/\b=w:=by
 by_cases a:p+n<=s.size
 ·have d:Hid (∀W,Calls prog 141 #[.string s,.int .i64 (p:Nat),.int .i64 (n:Nat)] W fun e b=>e=.returned (.int .i64 (pS s p n:Nat))/\b=W):=fun W=>GL s p n W (by unfold maxLen;omega) a (by omega);have c:¬p+n+pS s p n<=s.size:=fun c=>by
   unfold tF at h;rw[Qa ⟨a,c⟩]at h;exact absurd h (by simp)
  have l:pS s p n<65536:=by
   have f:=aZ (fI s p n);rw[sL a]at f;have i:256 ^ n<=256 ^ 2:=Zc (by omega) g;unfold pS;omega
  clear h;generalize pS s p n=Z at *;go_enter func112,ntmps112;go_wp2_with fail;refine(d.out _).mono ?_;rintro e m ⟨rfl,hw⟩;replace hw:=hw.symm;subst hw;go_wp2;go_ret2;exact⟨rfl,rfl⟩
 ·clear h;go_enter func112,ntmps112;go_wp2;go_ret2;exact⟨rfl,rfl⟩
theorem oN (s:ByteArray) (p n:Nat) (t:ByteArray) (q:Nat) (w:World) (j:s.size<=1000000000) (i:n<=2) (h:tF s p n=some (t,q)):
 Calls prog 112 #[.string s,.int .i64 (p:Nat),.int .i64 (n:Nat)] w fun e a=>e=.returned (.tuple #[.string t,.int .i64 (q:Nat)])/\a=w:=by
 unfold tF at h;split at h
 ·rename_i f;obtain⟨d,g⟩:=f;simp only[Pa,Hc]at h;have c:Hid (∀W,Calls prog 141 #[.string s,.int .i64 (p:Nat),.int .i64 (n:Nat)] W fun e a=>e=.returned (.int .i64 (pS s p n:Nat))/\a=W):=fun W=>GL s p n W (by unfold maxLen;omega) d (by omega);have b:Hid _:=h;clear h;generalize pS s p n=Z at *;go_enter func112,ntmps112;go_wp2_with fail;refine(c.out _).mono ?_;rintro e k ⟨rfl,hw⟩;replace hw:=hw.symm;subst hw;go_wp2;go_ret2;exact⟨xc b.out.1 (by rw[<-b.out.2];go_num),rfl⟩
 ·exact absurd h (by simp)
theorem jw {s t:ByteArray} {n p:Nat} {pre post:List UInt8} (h:s.data.toList=pre++((fA n (t.size:Nat)).data.toList++(t.data.toList++post))) (c:pre.length=p) (g:t.size<256 ^ n):tF s p n=some (t,p+n+t.size):=by
 have a:(fA n (t.size:Nat)).data.toList.length=n:=by rw[<-pH];exact iA n _
 have i:pS s p n=t.size:=by
  unfold pS fI;rw[h,<-c,List.drop_left];have e:((fA n (t.size:Nat)).data.toList++(t.data.toList++post)).take n=(fA n (t.size:Nat)).data.toList:=Tg a;rw[e];exact cI n t.size g
 have f:s.size=p+n+t.size+post.length:=by
  rw[pH,h];simp only[Za];rw[c,a,<-pH];omega
 unfold tF;rw[i,Qa ⟨by omega,by omega⟩];congr 2;apply wK;rw[vH,h,<-Ld,<-Ld];have d:(pre++(fA n (t.size:Nat)).data.toList).length=p+n:=by rw[Za,c,a]
 have b:(pre++(fA n (t.size:Nat)).data.toList++t.data.toList).length=p+n+t.size:=by rw[Za,d,<-pH]
 rw[Tg b,List.drop_left' d]
theorem IV {s:ByteArray} {p n:Nat} {t:ByteArray} {q:Nat} (h:tF s p n=some (t,q)):q<=s.size/\t.size<=s.size/\p+n<=q:=by
 unfold tF at h;split at h
 ·rename_i a;simp only[Pa,Hc]at h;obtain⟨rfl,rfl⟩:=h;refine⟨a.2,?_,by omega⟩;simp;omega
 ·exact absurd h (by simp)
theorem zV (a:Option Addr) (l:Nat) (d:List kA) (c y r u:Int) (t:Bool) (w:World) (m:qA w a d) (g:d.length<=maxLen) (n:xB d<=1000000000):
 Calls prog 108 #[.agg #[.slice a d.length l,.int .i64 c,.int .i64 y,.int .i64 r,.int .i64 u,.bool t]] w fun e z=>e=.returned (.int .i64 (xB d))/\Below w.heap.size w z:=by
 unfold maxLen at g;have p:Hid (qA w a d):=m;clear m;go_enter func108,ntmps108;go_wp2;go_loopw [3,9,5] (fun s i _ wr=>∃k:Nat,k<=d.length/\i=.int .i64 k/\s=.int .i64 (xB (d.take k))/\Below w.heap.size w wr) (fun _ i _ _=>d.length-(intOf i).toNat)
 case atStart=>exact⟨0,La _,rfl,rfl,(Below.refl _ _).alloc (Ka _) _⟩
 case round=>
  obtain⟨k,F,rfl,rfl,f⟩:=hrel;have v:=vL d k;by_cases h:k<d.length
  ·obtain⟨b,o,rfl,D,A,B,C⟩:=(p.out.later f).at h;have j:=cN d k h;have x:=vL d (k+1);have E:d[k].data.size<=1000000000:=by omega
   have q:Hid _:=j;clear j;go_wp2;exact⟨⟨k+1,by omega,by go_num,by rw[q.out];go_num,f.alloc f.size _⟩,by simp[intOf];omega⟩
  ·go_wp2;go_ret;have e:d.take k=d:=Ua (by omega);exact⟨zF (by rw[e]),f⟩
theorem aBb (a b:Nat) (g:b<256) (f:a<72057594037927936):bits .or .i64 (IntKind.i64.wrap ((a:Int)*256)) (b:Int)=jB (a*256+b):=by
 have d:a*256||| b=a*256+b:=by
  have:=Lf (i:=8) (b:=b) (by omega) a;rw[show 2 ^ 8*a=a*256 by omega]at this;exact this.symm
 have c:BitVec.ofInt 64 (IntKind.i64.wrap ((a:Int)*256))=BitVec.ofNat 64 (a*256):=by
  have e:((a:Int)*256)=((a*256:Nat):Int):=by omega
  rw[e];apply BitVec.eq_of_toNat_eq;rw[BitVec.toNat_ofInt,Ec];unfold IntKind.wrap;simp only[IntKind.bits,IntKind.signed];simp;omega
 show IntKind.i64.wrap ((BitVec.ofInt 64 (IntKind.i64.wrap ((a:Int)*256)) ||| BitVec.ofInt 64 (b:Int)).toNat:Int)=_;rw[c,BitVec.toNat_or,Jc,Ec,Ec,Kc (by omega),Kc (by omega),d];rfl
theorem TW (s:ByteArray) (w:World) (o:s.size<=8):
 Calls prog 138 #[.string s] w fun e j=>e=.returned (.int .i64 (jB (jN s.data.toList)))/\j=w:=by
 go_enter func138,ntmps138;go_wp2;go_loopw [3,4,7] (fun x _ c wr=>∃(k X:Nat) (Z:Int),k<=s.size/\c=.int .i64 k/\x=.int .i64 Z/\X<256 ^ k/\Hid (X=jN (s.data.toList.take k))/\Hid (Z=jB X)/\wr=w) (fun _ _ c _=>s.size-(intOf c).toNat)
 case atStart=>exact⟨0,0,0,by omega,rfl,rfl,by simp,by show _=_;simp[jN],by show _=_;rw[kD (by omega)];rfl,rfl⟩
 case round=>
  obtain⟨k,X,Z,m,rfl,rfl,g,f,d,rfl⟩:=hrel;by_cases b:k<s.size
  ·have l:=(s[k]).toNat_lt;have h:X<72057594037927936:=Ib g (Zc (n:=256) (by omega) (show k<=7 by omega));have a:Z=(X:Int):=by rw[d.out,kD (by omega)]
   subst a;have i:=aBb X (s[k]).toNat (by omega) (by omega);go_wp2;refine⟨⟨k+1,X*256+(s[k]).toNat,jB (X*256+(s[k]).toNat),by omega,by go_num,?_,?_,?_,rfl,trivial⟩,by simp[intOf];omega⟩
   ·exact Fd (Value.int .i64) (by rw[<-i,IntKind.wrap_i64,wrap64])
   ·rw[Md];omega
   ·show _=_;rw[lP s k b,jV,<-f.out]
  ·have e:k=s.size:=by omega
   subst e;go_wp2;go_ret;refine⟨?_,rfl⟩;show Ending.returned (.int .i64 Z)=_;rw[d.out,f.out,Ua (by simp)]
def RT (w:World) (B:Nat) (r:Rd):Prop:=∃t,eA w B #[.string r.rest,.bool r.r9] t
theorem EH (B:Nat) (r:Rd) (n:Nat) (w:World) (f:RT w B r) (p:n<=70000) (m:r.rest.size<=1000000000):
 Calls prog 96 #[.pointer (some ⟨B,0,none⟩),.int .i64 (n:Nat)] w fun e j=>e=.returned (.string (uB n r).1)/\RT j B (uB n r).2/\dB B w j:=by
 obtain⟨g,f⟩:=f;have i:Hid (eA w B #[.string r.rest,.bool r.r9] g):=f;have k:=eA.cell f 0;have l:=eA.cell f 1;simp only[Nc,Cc,Ia]at k l;have a:=eA.free f 0;have b:=eA.free f 1;obtain⟨c,d⟩:=r;simp only at k l m;clear f;by_cases h:c.size<n
 ·have E:Hid (uB n ⟨c,d⟩=(ByteArray.empty,⟨c,true⟩)):=by show _=_;unfold uB;rw[Qa h]
  rw[E.out];go_enter func96,ntmps96;go_wp2;go_ret;exact⟨rfl,⟨g,eA.set i.out 1 (.bool true)⟩,(dB.refl _ _).setCell _ _⟩
 ·have E:Hid (uB n ⟨c,d⟩=(c.extract 0 n,⟨c.extract n c.size,d⟩)):=by show _=_;unfold uB;rw[Oa h]
  have o:¬((c.size:Int)<(n:Int)):=by omega
  rw[E.out];go_enter func96,ntmps96;go_wp2;go_ret;exact⟨rfl,⟨g,eA.set i.out 0 (.string (c.extract n c.size))⟩,(dB.refl _ _).setCell _ _⟩
theorem gR (B:Nat) (r:Rd) (k:Nat) (w:World) (f:RT w B r) (m:k<=8) (j:r.rest.size<=1000000000):
 Calls prog 104 #[.pointer (some ⟨B,0,none⟩),.int .i64 (k:Nat)] w fun e a=>e=.returned (.int .i64 (jB (zA k r).1))/\RT a B (zA k r).2/\dB B w a:=by
 have d:Hid (Calls prog 96 #[.pointer (some ⟨B,0,none⟩),.int .i64 (k:Nat)] w fun e a=>e=.returned (.string (uB k r).1)/\RT a B (uB k r).2/\dB B w a):=EH B r k w f (by omega) j;have i:Hid (∀W,Calls prog 138 #[.string (uB k r).1] W fun e a=>e=.returned (.int .i64 (jB (jN (uB k r).1.data.toList)))/\a=W):=fun W=>TW _ W (by have:=(xG k r).1;omega);show Calls _ _ _ _ fun e a=>e=.returned (.int .i64 (jB (jN (uB k r).1.data.toList)))/\RT a B (uB k r).2/\dB B w a;clear f;generalize jN (uB k r).1.data.toList=N at *;generalize (uB k r).1=T at *;generalize (uB k r).2=l at *;go_enter func104,ntmps104;go_wp2_with fail;refine d.out.mono ?_;rintro e g ⟨rfl,c,b⟩;have h:Hid (RT g B l/\dB B w g):=⟨c,b⟩
 clear c b d;go_wp2_with fail;refine(i.out _).mono ?_;rintro e n ⟨rfl,hw⟩;replace hw:=hw.symm;subst hw;go_wp2;go_ret;exact⟨rfl,h.out⟩
theorem oX (B:Nat) (r:Rd) (k:Nat) (w:World) (l:RT w B r) (q:k<=2) (t:r.rest.size<=1000000000):
 Calls prog 105 #[.pointer (some ⟨B,0,none⟩),.int .i64 (k:Nat)] w fun e a=>e=.returned (.string (oA k r).1)/\RT a B (oA k r).2/\dB B w a:=by
 have g:Hid (Calls prog 104 #[.pointer (some ⟨B,0,none⟩),.int .i64 (k:Nat)] w fun e a=>e=.returned (.int .i64 (jB (zA k r).1))/\RT a B (zA k r).2/\dB B w a):=gR B r k w l (by omega) t;have s:(zA k r).1<65536:=by
  have x:=nL k r;have y:256 ^ k<=256 ^ 2:=Zc (by omega) q;omega
 have i:(zA k r).2.rest.size<=1000000000:=by
  have:=(xG k r).2.2;show(uB k r).2.rest.size<=_;omega
 have p:Hid (∀W,RT W B (zA k r).2->Calls prog 96 #[.pointer (some ⟨B,0,none⟩),.int .i64 ((zA k r).1:Nat)] W fun e a=>e=.returned (.string (oA k r).1)/\RT a B (oA k r).2/\dB B W a):=fun W h=>EH B _ _ W h (by omega) i;rw[kD (by omega)]at g;clear l;generalize (oA k r).1=T at *;generalize (oA k r).2=u at *;generalize (zA k r).1=N at *;generalize (zA k r).2=v at *;go_enter func105,ntmps105;go_wp2_with fail;refine g.out.mono ?_;rintro e m ⟨rfl,d,b⟩;have j:Hid (RT m B v/\dB B w m):=⟨d,b⟩
 clear d b g;go_wp2_with fail;refine(p.out _ j.out.1).mono ?_;rintro e n ⟨rfl,f,c⟩;have o:Hid (RT n B u/\dB B w n):=⟨f,j.out.2.trans c⟩
 clear f c;go_wp2;go_ret;exact⟨rfl,o.out⟩
def aM:List PanicEntry:=[{ v:=.iface 121 (.string ⟨#[116,104,101,32,116,101,120,116,32,105,115,32,110,111,32,101,110,99,111,100,105,110,103]⟩),recovered:=false}]
theorem eX (p:Value) (w:World):Calls prog 32 #[p,.bool true] w fun e a=>e=.returned (.tuple #[])/\a=w:=by
 go_enter func32,ntmps32;go_wp2;go_end0;exact⟨rfl,rfl⟩
theorem nS (p:Value) (w:World):Calls prog 32 #[p,.bool false] w fun e a=>e=.panicked aM/\a=w:=by
 go_enter func32,ntmps32;go_wp2;exact⟨rfl,rfl,rfl⟩
theorem jr (B:Nat) (r:Rd) (k:Nat) (w:World) (i:RT w B r) (l:k<=8) (m:r.rest.size<=1000000000) (d:(zA k r).2.r9=false):
 Calls prog 59 #[.pointer (some ⟨B,0,none⟩),.int .i64 (k:Nat)] w fun e f=>e=.returned (.int .i64 (jB (zA k r).1))/\RT f B (zA k r).2/\dB B w f:=by
 have h:Hid (Calls prog 104 #[.pointer (some ⟨B,0,none⟩),.int .i64 (k:Nat)] w fun e f=>e=.returned (.int .i64 (jB (zA k r).1))/\RT f B (zA k r).2/\dB B w f):=gR B r k w i l m;clear i;generalize jB (zA k r).1=N at *;generalize (zA k r).2=n at *;go_enter func59,ntmps59;go_wp2_with fail;refine h.out.mono ?_;rintro e g ⟨rfl,c,b⟩;have j:Hid (RT g B n/\dB B w g):=⟨c,b⟩
 obtain⟨o,a⟩:=c;have q:g.cell? ⟨B,1,none⟩=some (.bool false):=(a.cell 1).trans (by rw[d];rfl);clear b a h d;go_wp2_with fail;refine(eX _ _).mono ?_;rintro e p ⟨rfl,hw⟩;replace hw:=hw.symm;subst hw;go_wp2;go_ret;exact⟨rfl,j.out⟩
theorem ZS (B:Nat) (r:Rd) (k:Nat) (w:World) (i:RT w B r) (l:k<=8) (m:r.rest.size<=1000000000) (d:(zA k r).2.r9=true):
 Calls prog 59 #[.pointer (some ⟨B,0,none⟩),.int .i64 (k:Nat)] w fun e f=>e=.panicked aM/\dB B w f:=by
 have h:Hid (Calls prog 104 #[.pointer (some ⟨B,0,none⟩),.int .i64 (k:Nat)] w fun e f=>e=.returned (.int .i64 (jB (zA k r).1))/\RT f B (zA k r).2/\dB B w f):=gR B r k w i l m;clear i;generalize jB (zA k r).1=N at *;generalize (zA k r).2=n at *;go_enter func59,ntmps59;go_wp2_with fail;refine h.out.mono ?_;rintro e g ⟨rfl,c,b⟩;have j:Hid (RT g B n/\dB B w g):=⟨c,b⟩
 obtain⟨o,a⟩:=c;have q:g.cell? ⟨B,1,none⟩=some (.bool true):=(a.cell 1).trans (by rw[d];rfl);clear b a h d;go_wp2_with fail;refine(nS _ _).mono ?_;rintro e p ⟨rfl,hw⟩;replace hw:=hw.symm;subst hw;exact⟨rfl,rfl,j.out.2⟩
theorem aCd (B:Nat) (r:Rd) (k:Nat) (w:World) (i:RT w B r) (l:k<=2) (m:r.rest.size<=1000000000) (d:(oA k r).2.r9=false):
 Calls prog 60 #[.pointer (some ⟨B,0,none⟩),.int .i64 (k:Nat)] w fun e f=>e=.returned (.string (oA k r).1)/\RT f B (oA k r).2/\dB B w f:=by
 have h:Hid (Calls prog 105 #[.pointer (some ⟨B,0,none⟩),.int .i64 (k:Nat)] w fun e f=>e=.returned (.string (oA k r).1)/\RT f B (oA k r).2/\dB B w f):=oX B r k w i l m;clear i;generalize (oA k r).1=N at *;generalize (oA k r).2=n at *;go_enter func60,ntmps60;go_wp2_with fail;refine h.out.mono ?_;rintro e g ⟨rfl,c,b⟩;have j:Hid (RT g B n/\dB B w g):=⟨c,b⟩
 obtain⟨o,a⟩:=c;have q:g.cell? ⟨B,1,none⟩=some (.bool false):=(a.cell 1).trans (by rw[d];rfl);clear b a h d;go_wp2_with fail;refine(eX _ _).mono ?_;rintro e p ⟨rfl,hw⟩;replace hw:=hw.symm;subst hw;go_wp2;go_ret;exact⟨rfl,j.out⟩
theorem xr (B:Nat) (r:Rd) (k:Nat) (w:World) (i:RT w B r) (l:k<=2) (m:r.rest.size<=1000000000) (d:(oA k r).2.r9=true):
 Calls prog 60 #[.pointer (some ⟨B,0,none⟩),.int .i64 (k:Nat)] w fun e f=>e=.panicked aM/\dB B w f:=by
 have h:Hid (Calls prog 105 #[.pointer (some ⟨B,0,none⟩),.int .i64 (k:Nat)] w fun e f=>e=.returned (.string (oA k r).1)/\RT f B (oA k r).2/\dB B w f):=oX B r k w i l m;clear i;generalize (oA k r).1=N at *;generalize (oA k r).2=n at *;go_enter func60,ntmps60;go_wp2_with fail;refine h.out.mono ?_;rintro e g ⟨rfl,c,b⟩;have j:Hid (RT g B n/\dB B w g):=⟨c,b⟩
 obtain⟨o,a⟩:=c;have q:g.cell? ⟨B,1,none⟩=some (.bool true):=(a.cell 1).trans (by rw[d];rfl);clear b a h d;go_wp2_with fail;refine(nS _ _).mono ?_;rintro e p ⟨rfl,hw⟩;replace hw:=hw.symm;subst hw;exact⟨rfl,rfl,j.out.2⟩
