import Derived.Test.YtabgbmfcbobamaaGreatDoorJ39
import Derived.Test.YtabgbmfcbobamaaGreatDoorJ36
set_option maxRecDepth 100000
set_option maxHeartbeats 8000000
namespace Go.Proofs.YtabgbmfcbobamaaGreatDoor
open Go.RowKit Tryz
def CX (p:Value->Prop) (w:World) (B:Nat) (T:TypeId) (sz:Nat) (v:Value) (n:Nat) (xs:List Value):Prop:=
 w.ownsRow B T sz v n xs/\v.ownBlock≠none/\∀g j u,v.ownBlock=some g->w.cell? ⟨g,j,none⟩=some u->p u
section
variable {p:Value→Prop} {w w':World} {B n:Nat} {T:TypeId} {sz:Nat} {v:Value} {xs:List Value}
theorem CX.turn {S:Nat->Prop} (h:CX p w B T sz v n xs) (c:gA S w w') (b:∀g,v.ownBlock=some g->¬S g):CX p w' B T sz v n xs:=
 ⟨c.row h.1 b,h.2.1,fun g j u a d=>h.2.2 g j u a (by rw[<-World.cell?_of_block (c.block g (h.1.lt g a).2 (b g a))];exact d)⟩
theorem CX.later (h:CX p w B T sz v n xs) (a:Below w.heap.size w w'):CX p w' B T sz v n xs:=h.turn (gA.of a (S:=fun _=>False)) fun _ _ e=>e
theorem xj {P:Program} {t L:TypeId} {i:TypeInfo} {z:Value} (N:P.underlying t=some (.slice T)) (M:P.info? T=some i) (i0:i.zero=some z) (i1:i.size=sz) (hz:z.cells.size=sz) (h:CX p w B T sz v n xs)
 {C:Addr} {c:Nat} {a:List Value} (J:a.length=1*sz) (l:∀j u,a[j]?=some u->w.cell? (C.add j)=some u) (U:∀u∈a,u.oneCell'=true) (V:n+1<=5000001) (F:(n+1)*i.bytes<=140737488355328)
 {g E:Nat} (D:(Builtin.append_ #[t,t] L #[v,.slice (some C) 1 c]).run P w=.ok (.slice (some ⟨g,0,none⟩) (n+1) E) w') (O:∀u∈a,p u) (pz:∀u∈z.cells.toList,p u):∀j u,w'.cell? ⟨g,j,none⟩=some u->p u:=by
 subst i1;obtain⟨m,R,hp⟩:=h;rcases m.2 with⟨rfl,rfl⟩|⟨q,d,f,rfl,X,H,hnc,Y,G,s⟩
 ·exact absurd rfl R
 have K:∀u∈f.toList,p u:=fun u x=>by
  obtain⟨j,Z,e⟩:=Ob x;refine hp q j u rfl ?_;rw[cell_of_row w q j f T (0,0) H,<-Zd,Va Z,e]
 by_cases o:n+1<=d
 ·have y:n*i.size+a.length<=f.size:=by rw[J,G,<-Nat.add_mul];exact Nat.mul_le_mul_right _ o
  rw[run_append_room (P:=P) w t L T i N M q n d f H C 1 c a J l U o y]at D;injection D with e1 e2;obtain rfl:q=g:=by injection e1 with e1;injection e1 with e1;injection e1
  subst e2;intro j u x;rw[cell_of_row _ q j _ T (0,0) (setRow_heap w q f _ T _ H)]at x;have b:=Ng x;simp only[List.mem_toArray,Oc]at b;rcases b with(b|b)|b
  ·exact K u (Ed b)
  ·exact O u b
  ·exact K u (Qe b)
 ·have r:∀j u,xs[j]?=some u->w.cell? ((⟨q,0,none⟩:Addr).add j)=some u:=m.cells (g:=q) rfl;rw[run_append_grow (P:=P) w t L T i z N M i0 ⟨q,0,none⟩ n d xs m.1 r C 1 c a J l (by omega) (by omega) (growslice_fits (by omega) F)]at D;injection D with e1 e2;obtain rfl:w.heap.size=g:=by injection e1 with e1;injection e1 with e1;injection e1
  subst e2;intro j u x;rw[cell_of_row _ w.heap.size j _ T (0,0) (heap_alloc_new w.drew _)]at x;have b:=Ng x;simp only[Array.mem_append,List.mem_toArray]at b;rcases b with(b|b)|b
  ·rw[<-s]at b;exact K u (Ed b)
  ·exact O u b
  ·unfold Builtin.zeroCells at b;obtain⟨k,hk,e⟩:=Array.mem_map.1 b;have I:=Array.mem_range.1 hk;have A:0<z.cells.size:=Nat.pos_of_ne_zero fun Q=>by rw[Q,Nat.mul_zero]at I;omega
   rw[getElem!_pos z.cells _ (Nat.mod_lt k A)]at e;exact pz u (by rw[<-e];simp)
end
theorem kw {p:Value->Prop} {K:Array Oper} {f:List Oper} {o:Oper} {a:Act} {Q:Exit->Act->World->Prop} {w:World} (y:o.guard=none) (s x:Operand) {m T:TypeId} {z:Value} {sz b:Nat}
 (V:o.op=.call { callee:=.builtin .append,args:=#[s,x],argTypes:=#[m,m] }) (F:prog.underlying m=some (.slice T)) (r:(prog.info? T).map (fun i=>(i.zero,i.size,i.bytes))=some (some z,sz,b)) (G:z.cells.size=sz) (L:0<sz) (R:b<=100)
 {B n:Nat} {v:Value} {xs:List Value} {cs:Array Value} (Z:a.eval s=v) (Y:CX p w B T sz v n xs) {q:Nat} (hx:a.eval x=.slice (some ⟨q,0,none⟩) 1 1) (X:w.heap.size=q) (D:cs.size=sz) (A:∀u∈cs.toList,u.oneCell'=true) (U:n<=5000000) (hB:B<=w.heap.size) (pn:∀u∈cs.toList,p u) (pz:∀u∈z.cells.toList,p u)
 (h:∀g c w',Hid (CX p w' B T sz (.slice (some ⟨g,0,none⟩) (n+1) c) (n+1) (xs++cs.toList))->Hid (gA (fun i=>v.ownBlock=some i) w w')->wpList prog K Q f (a.put o.dst (.slice (some ⟨g,0,none⟩) (n+1) c)) w'):
 wpList prog K Q (o::f) a (w.alloc (.cells cs T)):=by
 subst X;obtain⟨i,r,H,I,J⟩:=info_parts r;have E:(n+1)*b<=140737488355328:=Ra (De (Qg U 1) R) (by decide);have l:=Y.later (cA w (.cells cs T));have k:∀j u,cs.toList[j]?=some u->(w.alloc (.cells cs T)).cell? ((⟨w.heap.size,0,none⟩:Addr).add j)=some u:=by
  have:=World.news_of_block (cs:=cs) (t:=T) (fr:=(0,0)) (heap_alloc_new w (.cells cs T));simpa using this
 obtain⟨g,c,w',d,M,N,h4,h5⟩:=run_append_lies (P:=prog) (w.alloc (.cells cs T)) m o.type B T i z sz b F r H I J G L v n xs l.1 ⟨w.heap.size,0,none⟩ 1 1 cs.toList (by simpa using D) k A (by omega) (by simp[maxLen];omega) E (by simp;omega) (w.heap.size+1) (by simp);refine wpList_plain y fun _ O=>?_;unfold Oper.wp execOp;simp only[V,resolve,invoke,builtin,Sem.run_bind,Sem.run_pure,Result.andThen_ok,Sf,Lb,Qc,Z,hx,d];refine O _ _ (h g c w' ⟨M,by simp[Value.ownBlock],fun g' j u C hu=>?_⟩ ((gA.of (cA w (.cells cs T))).trans' ((gA.grown N).mono fun i _ e=>e)));simp only[Value.ownBlock,Pa]at C;subst C;exact xj F r H I G l (by simpa using D) k A (by omega) (by rw[J];exact E) d pn pz j u hu
section
variable {w W:World} {S:Nat→Prop} {p:Value→Prop}
def lb (p:Value->Prop):Prop:=(∀s,¬p (.string s))\/∀n,¬p (.int .i64 n)
theorem DR (i:∀g j u,S g->w.cell? ⟨g,j,none⟩=some u->p u) (f:gA S w W) (a:lb p) {b o k:Nat} {s:ByteArray} {n:Int} (d:b<w.heap.size) (h:w.cell? ⟨b,o,none⟩=some (.string s)) (l:w.cell? ⟨b,k,none⟩=some (.int .i64 n)):b<W.heap.size/\∀j,W.cell? ⟨b,j,none⟩=w.cell? ⟨b,j,none⟩:=by
 have c:¬S b:=fun e=>by
  rcases a with a|a
  ·exact a _ (i b o _ e h)
  ·exact a _ (i b k _ e l)
 exact⟨Ib d f.size,fun j=>World.cell?_of_block (f.block b d c)⟩
theorem qA.keptP (q:∀g j u,S g->w.cell? ⟨g,j,none⟩=some u->p u) (m:gA S w W) (l:lb p) {a:Option Addr} {c:List kA} (h:qA w a c):qA W a c:=by
 rcases h with h|⟨b,o,e,d,h⟩
 ·exact Ca h
 ·cases c with
  |nil=>exact Ca rfl
  |cons f r=>
   obtain⟨s,t⟩:=DR q m l d (h 0 (by simp)).1 (h 0 (by simp)).2.2;exact Ja ⟨b,o,e,s,fun i k=>by simp only[t];exact h i k⟩
theorem yA.keptP (q:∀g j u,S g->w.cell? ⟨g,j,none⟩=some u->p u) (m:gA S w W) (l:lb p) {a:Option Addr} {c:List lA} (h:yA w a c):yA W a c:=by
 rcases h with h|⟨b,o,e,d,h⟩
 ·exact Ca h
 ·cases c with
  |nil=>exact Ca rfl
  |cons f r=>
   obtain⟨s,t⟩:=DR q m l d (h 0 (by simp)).1 (h 0 (by simp)).2;exact Ja ⟨b,o,e,s,fun i k=>by simp only[t];exact h i k⟩
theorem oB.keptP (q:∀g j u,S g->w.cell? ⟨g,j,none⟩=some u->p u) (m:gA S w W) (l:lb p) {a:Option Addr} {s:List dA} (h:oB w a s):oB W a s:=by
 rcases h with h|⟨b,o,e,F,h⟩
 ·exact Ca h
 ·cases s with
  |nil=>exact Ca rfl
  |cons f r=>
   obtain⟨_,_,_,_,d,k,_⟩:=h 0 (by simp);obtain⟨H,c⟩:=DR q m l F d k;refine Ja ⟨b,o,e,H,fun i G=>?_⟩;obtain⟨t,y,x,z,A,d,k,C,D,E⟩:=h i G;exact⟨t,y,x,z,(c _).trans A,(c _).trans d,(c _).trans k,(c _).trans C,D.keptP q m l,E.keptP q m l⟩
end
theorem vT {p:FuncId} {k:Nat} (f:p=21/\k=1\/p=19/\k=2\/p=18/\k=8) (v:Int) (w:World):Calls prog p #[.int .i64 v] w fun e g=>e=.returned (.string (fA k v))/\Below w.heap.size w g:=by
 have b:=bA (fun n d W=>eG n v W d);rcases f with⟨rfl,rfl⟩|⟨rfl,rfl⟩|⟨rfl,rfl⟩
 ·go_enter func21,ntmps21;go_wp2_with fail;refine(b.out 1 (by omega) _).mono ?_;rintro e c ⟨rfl,a⟩;go_wp2;go_ret;exact⟨rfl,a⟩
 ·go_enter func19,ntmps19;go_wp2_with fail;refine(b.out 2 (by omega) _).mono ?_;rintro e c ⟨rfl,a⟩;go_wp2;go_ret;exact⟨rfl,a⟩
 ·go_enter func18,ntmps18;go_wp2_with fail;refine(b.out 8 (by omega) _).mono ?_;rintro e c ⟨rfl,a⟩;go_wp2;go_ret;exact⟨rfl,a⟩
structure GE (w W:World) (fl rq:Array Value) (v:Value) (ps:List ByteArray):Prop where
 S:eA W w.heap.size fl 89
 R:eA W (w.heap.size+1) rq 44
 V:W.ownsRow (w.heap.size+1+1) 9 1 v ps.length (ps.map Value.string)
 N:Below w.heap.size w W
section
variable {w W W':World} {fl rq:Array Value} {v v':Value} {ps qs:List ByteArray}
theorem GE.later (h:GE w W fl rq v ps) (a:Below W.heap.size W W'):GE w W' fl rq v ps:=⟨h.S.later a,h.R.later a,vA h.V a,nA h.N a⟩
theorem GE.size (h:GE w W fl rq v ps):w.heap.size+1+1<=W.heap.size:=aA h.R
theorem GE.turn (h:GE w W fl rq v ps) (a:gA (fun i=>w.heap.size+1+1<=i/\v.ownBlock=some i) W W') (b:W'.ownsRow (w.heap.size+1+1) 9 1 v' (ps.length+qs.length) (ps.map Value.string++qs.map Value.string)):GE w W' fl rq v' (ps++qs):=
 ⟨a.blk h.S (fun e=>by omega),a.blk h.R (fun e=>by omega),by rw[Za,Vd];exact b,h.N.trans (a.below h.N.size fun q c e=>by omega)⟩
end
def dH (a:List jD):List ByteArray:=a.flatMap fun x=>[nI x.labs,fA 8 x.bits]
theorem am (a:List jD) (k:Nat) (h:k<a.length):dH (a.take (k+1))=dH (a.take k)++[nI a[k].labs,fA 8 a[k].bits]:=by
 unfold dH;rw[Ma h,Zf];rfl
theorem JQ:∀(a:List jD),gE (dH a)=cD a
 |[]=>rfl
 |x::q=>by
  have e:dH (x::q)=[nI x.labs,fA 8 x.bits]++dH q:=rfl;rw[e,pF,JQ q,cD];simp[gE,tP]
theorem QK:∀(a:List jD),eC a<=1048576->(∀i (h:i<a.length),a[i].labs.length<=255)->wE (dH a)<=a.length*2000000
 |[],_,_=>by simp[dH,wE]
 |x::q,d,b=>by
  have e:dH (x::q)=[nI x.labs,fA 8 x.bits]++dH q:=rfl;have c:x.labs.length<=255:=b 0 (by simp);have f:eC (x::q)=kG x+eC q:=rfl;have k:kG x=x.labs.length+wB x.labs:=rfl;have j:=QK q (by omega) (fun i h=>b (i+1) (by simpa using h));have g:(nI x.labs).size<=1999000:=by rw[nI,Ga,iA,tI];omega
  rw[e,mG];simp only[wE,iA,Jb];omega
theorem yV:(prog.info? 9).map (fun i=>(i.zero,i.size,i.bytes))=some (some (.string ByteArray.empty),1,16):=by kernel_rfl
theorem ee (r:vI) (a:Option Addr) (l:Nat) (w:World) (p:sE w a r.smps) (hz:yF r<=1048576) (Z:kO r):
 Calls prog 42 #[shV r.kind,.agg #[.int .i64 r.kind,.string r.n9,.string r.metric,.int .i64 r.num,.slice a r.smps.length l]] w fun e F=>e=.returned (.string (uS r))/\Below w.heap.size w F:=by
 have u:yF r=r.n9.size+r.metric.size+r.smps.length+eC r.smps:=rfl;have h4:=Z.2.2.2.2.1;have hl:=Z.2.2.2.2.2.2.2.1;have hx:=Z.2.2.2.2.2.2.2.2;obtain⟨k,D,C,E,d⟩:=r;dsimp only at *;have HU:=bA (fun W=>vT (Ca ⟨rfl,rfl⟩) k W);have A1:Hid (∃Q,(xQ k=true/\(∃x,Q=[x]/\x.size<=1100000/\∀W,Calls prog 22 #[.string D] W fun e F=>e=.returned (.string x)/\Below W.heap.size W F)\/xQ k=false/\Q=[])/\gE Q=(if xQ k=true then oK D else ByteArray.empty)):=by
  by_cases h:xQ k=true
  ·exact⟨[oK D],Ca ⟨by simpa using h,_,rfl,by rw[mE];omega,fun W=>uT D W (by omega)⟩,by simp[gE,h]⟩
  ·exact⟨[],Ja ⟨by simpa using h,rfl⟩,by simp[gE,h]⟩
 have A2:Hid (∃Q,((k==1)=true/\(∃x,Q=[x]/\x.size<=1100000/\∀W,Calls prog 19 #[.int .i64 (d.length:Nat)] W fun e F=>e=.returned (.string x)/\Below W.heap.size W F)\/(k==1)=false/\Q=[])/\gE Q=(if k=1 then fA 2 (d.length:Nat) else ByteArray.empty)):=by
  by_cases h:k=1
  ·exact⟨[fA 2 (d.length:Nat)],Ca ⟨by simpa using h,_,rfl,by rw[iA];omega,fun W=>vT (Ja (Ca ⟨rfl,rfl⟩)) _ W⟩,by simp[gE,h]⟩
  ·exact⟨[],Ja ⟨by simpa using h,rfl⟩,by simp[gE,h]⟩
 have A3:Hid (∃Q,(uQ k=true/\(∃x,Q=[x]/\x.size<=1100000/\∀W,Calls prog 23 #[.string C] W fun e F=>e=.returned (.string x)/\Below W.heap.size W F)\/uQ k=false/\Q=[])/\gE Q=(if uQ k=true then nD C else ByteArray.empty)):=by
  by_cases h:uQ k=true
  ·exact⟨[nD C],Ca ⟨by simpa using h,_,rfl,by rw[oD];omega,fun W=>xN C W (by omega)⟩,by simp[gE,h]⟩
  ·exact⟨[],Ja ⟨by simpa using h,rfl⟩,by simp[gE,h]⟩
 have A4:Hid (∃Q,(fR k=true/\(∃x,Q=[x]/\x.size<=1100000/\∀W,Calls prog 18 #[.int .i64 E] W fun e F=>e=.returned (.string x)/\Below W.heap.size W F)\/fR k=false/\Q=[])/\gE Q=(if fR k=true then fA 8 E else ByteArray.empty)):=by
  by_cases h:fR k=true
  ·exact⟨[fA 8 E],Ca ⟨by simpa using h,_,rfl,by rw[iA];omega,fun W=>vT (Ja (Ja ⟨rfl,rfl⟩)) _ W⟩,by simp[gE,h]⟩
  ·exact⟨[],Ja ⟨by simpa using h,rfl⟩,by simp[gE,h]⟩
 obtain⟨U,A1,E1⟩:=A1.out;obtain⟨Q2,A2,E2⟩:=A2.out;obtain⟨Q3,A3,E3⟩:=A3.out;obtain⟨Q4,A4,E4⟩:=A4.out;have HX:Hid (gE ([fA 1 k]++U++Q2++dH d++Q3++Q4)=uS ⟨k,D,C,E,d⟩):=by
  show _=_;unfold uS;simp only[pF,E1,E2,E3,E4,JQ];by_cases h:k=1
  ·simp[gE,h,Gb]
  ·simp[gE,h,h4 h,cD,Gb]
 have l1:U.length<=1:=by rcases A1 with⟨_,x,rfl,_⟩|⟨_,rfl⟩<;>simp
 have l2:Q2.length<=1:=by rcases A2 with⟨_,x,rfl,_⟩|⟨_,rfl⟩<;>simp
 have HF:=bA p;have HH:=bA hx;have l3:Q3.length<=1/\wE Q3<=1100000:=by rcases A3 with⟨_,x,rfl,h,_⟩|⟨_,rfl⟩<;>simp[wE]<;>omega
 have l4:Q4.length<=1/\wE Q4<=1100000:=by rcases A4 with⟨_,x,rfl,h,_⟩|⟨_,rfl⟩<;>simp[wE]<;>omega
 have l5:wE U<=1100000/\wE Q2<=1100000:=⟨by rcases A1 with⟨_,x,rfl,h,_⟩|⟨_,rfl⟩<;>simp[wE]<;>omega,by rcases A2 with⟨_,x,rfl,h,_⟩|⟨_,rfl⟩<;>simp[wE]<;>omega⟩
 have hsum:wE ([fA 1 k]++U++Q2++dH d++Q3++Q4)<=140737488355328:=by
  have h:=QK d (by omega) (fun i hi=>(hx i hi).1);have:=iA 1 k;simp only[mG,wE];omega
 replace A3:=bA A3;replace A4:=bA A4;clear E1 E2 E3 E4 h4 p hx Z;unfold shV;generalize uS ⟨k,D,C,E,d⟩=RX at *;generalize fA 1 k=T at *;generalize xQ k=t at *;generalize uQ k=m at *;generalize fR k=n at *;generalize (k==1||k==2||k==3||k==4)=c at *;generalize (k==1)=s at *;go_enter func42,ntmps42;go_wp2_with fail;refine(HU.out _).mono ?_;rintro e H ⟨rfl,u⟩;have G:Hid (GE w (H.alloc (.cells #[.string T] 9)) #[.bool t,.bool s,.bool m,.bool n,.bool c] #[.int .i64 k,.string D,.string C,.int .i64 E,.slice a d.length l] (.slice (some ⟨H.heap.size,0,none⟩) 1 1) [T]):=
  ⟨((((eA.new _ _ _).alloc _).later u).alloc _),by have:=((eA.new (w.alloc (.cells #[.bool t,.bool s,.bool m,.bool n,.bool c] 89)) #[.int .i64 k,.string D,.string C,.int .i64 E,.slice a d.length l] 44).later u).alloc (.cells #[.string T] 9);simpa using this,⟨rfl,Ja ⟨H.heap.size,1,_,rfl,by have:=u.size;simpa using this,heap_alloc_new _ _,Ka _,by simp[maxLen],rfl,rfl⟩⟩,nA (nA (nA (cA _ _) (cA _ _)) u) (cA _ _)⟩
 clear u HU;go_upto_region 2 with fail;generalize H.alloc (.cells #[.string T] 9)=W at *;generalize H.heap.size=g at *;clear H;generalize Value.agg #[.bool t,.bool s,.bool m,.bool n,.bool c]=SV;obtain⟨K,L,M,O,s4⟩:=G.out.S.c5;obtain⟨r0,r1,r2,r3,r4⟩:=G.out.R.c5;go_upto_if 13 with fail;go_cut [5] (fun v wx=>∃g A,v=.slice (some ⟨g,0,none⟩) ([T]++U).length A/\GE w wx #[.bool t,.bool s,.bool m,.bool n,.bool c] #[.int .i64 k,.string D,.string C,.int .i64 E,.slice a d.length l] v ([T]++U))
 case first=>
  rcases A1 with⟨p,x,rfl,zx,y⟩|⟨p,rfl⟩
  ·rw[p]at K |-
   replace y:=bA y;go_wp2_with fail;refine(y.out _).mono ?_;rintro e H ⟨rfl,u⟩;replace G:=bA (G.out.later u);go_wp2_with(at_builtin;refine gN rfl _ _ rfl underlying39 yV rfl (by omega) (by omega) (by rfl) G.out.V (by rfl) (by rfl) rfl (by simp[Value.oneCell']) (by first|omega|(simp<;>omega)) G.out.size ?_;intro g2 c2 w2 h1 h2;have G2:=bA (G.out.turn (qs:=[x]) h2.out h1.out));go_wp2;go_meet;exact⟨g2,c2,by simp,by simpa using G2.out⟩
  ·rw[p]at K |-
   go_wp2;go_meet;exact⟨g,_,by rw[Id]<;>rfl,by simpa using G.out⟩
 clear K G;obtain⟨g,A,rfl,G⟩:=hcut;replace G:=bA G;rename World=>W;obtain⟨K,L,M,O,s4⟩:=G.out.S.c5;obtain⟨r0,r1,r2,r3,r4⟩:=G.out.R.c5;go_upto_if 21 with fail;go_cut [5] (fun v wx=>∃g A,v=.slice (some ⟨g,0,none⟩) (([T]++U)++Q2).length A/\GE w wx #[.bool t,.bool s,.bool m,.bool n,.bool c] #[.int .i64 k,.string D,.string C,.int .i64 E,.slice a d.length l] v (([T]++U)++Q2))
 case first=>
  rcases A2 with⟨p,x,rfl,zx,y⟩|⟨p,rfl⟩
  ·rw[p]at L |-
   replace y:=bA y;go_wp2_with fail;refine(y.out _).mono ?_;rintro e H ⟨rfl,u⟩;replace G:=bA (G.out.later u);go_wp2_with(at_builtin;refine gN rfl _ _ rfl underlying39 yV rfl (by omega) (by omega) (by rfl) G.out.V (by rfl) (by rfl) rfl (by simp[Value.oneCell']) (by first|omega|(simp<;>omega)) G.out.size ?_;intro g2 c2 w2 h1 h2;have G2:=bA (G.out.turn (qs:=[x]) h2.out h1.out));go_wp2;go_meet;exact⟨g2,c2,by simp,by simpa using G2.out⟩
  ·rw[p]at L |-
   go_wp2;go_meet;exact⟨g,_,by rw[Id]<;>rfl,by simpa using G.out⟩
 clear L G;obtain⟨g,A,rfl,G⟩:=hcut;replace G:=bA G;rename World=>W;obtain⟨K,L,M,O,s4⟩:=G.out.S.c5;obtain⟨r0,r1,r2,r3,r4⟩:=G.out.R.c5;have hps:([T]++U++Q2).length<=3:=by simp;omega
 generalize hP:[T]++U++Q2=P at *;clear K L M O s4 A1 A2 l1 l2;go_wp2;go_loopw [5,7,32] (fun out _ i wr=>∃(j g cv z:Nat),j<=d.length/\i=.int .i64 j/\out=.slice (some ⟨g,0,none⟩) z cv/\z<=3+2*j/\Hid (z=(P++dH (d.take j)).length)/\Hid (GE w wr #[.bool t,.bool s,.bool m,.bool n,.bool c] #[.int .i64 k,.string D,.string C,.int .i64 E,.slice a d.length l] (.slice (some ⟨g,0,none⟩) z cv) (P++dH (d.take j)))) (fun _ _ i _=>d.length-(intOf i).toNat)
 case atStart=>exact⟨0,g,A,P.length,La _,rfl,rfl,by omega,bA (by simp[dH]),bA (by simpa[dH]using G.out)⟩
 case round=>
  clear G r0 r1 r2 r3 r4 W g A;obtain⟨j,g,cv,z,hj,rfl,rfl,hz2,HZ,G⟩:=hrel;rename World=>W;obtain⟨K,L,M,O,s4⟩:=G.out.S.c5;obtain⟨r0,r1,r2,r3,r4⟩:=G.out.R.c5;by_cases J:j<d.length
  ·obtain⟨b,o,a1,q1,rfl,u,c0,c1,p1⟩:=(HF.out.later G.out.N).at J;have hll:=(HH.out j J).1;have hbs:=qU d j J;have hbe:kG d[j]=d[j].labs.length+wB d[j].labs:=rfl;have HK:=bA (fun W' (hW:Below W.heap.size W W')=>ez a1 q1 d[j].labs W' (p1.later hW) (fun i hi=>by have:=UH d[j].labs i hi;omega) hll);have HB:=bA (fun W'=>vT (Ja (Ja ⟨rfl,rfl⟩)) d[j].bits W');have E2:=bA (show P++dH (d.take (j+1))=P++dH (d.take j)++_ by rw[am d j J,Ld]);generalize P++dH (d.take j)=ps at *;have hgl:=G.out.V.lt g rfl;have HV:Hid (W.ownsRow (w.heap.size+1+1) 9 1 (.slice (some ⟨g,0,none⟩) z cv) z (ps.map Value.string)):=bA (by have:=G.out.V;rw[<-HZ.out]at this;exact this);clear p1 hbe hbs;generalize nI d[j].labs=SK at *;generalize fA 8 d[j].bits=S8 at *;generalize d[j].labs.length=ll at *;generalize d[j].bits=bi at *;have X:=bA (eA.new W #[.slice a1 ll q1,.int .i64 bi] 126);have HW:=bA (cA W (.cells #[.slice a1 ll q1,.int .i64 bi] 126));replace G:=bA (G.out.later HW.out);replace HV:=bA (vA HV.out HW.out);go_upto_region 9 with fail;generalize W.alloc (.cells #[.slice a1 ll q1,.int .i64 bi] 126)=V at *;replace HK:=bA (fun W' (h:Below V.heap.size V W')=>HK.out W' (nA HW.out h));have hX:=aA X.out;obtain⟨x0,x1⟩:=X.out.c2;have hw2:=G.out.size;clear X HW u c0 c1 K L M O s4 r0 r1 r2 r3 r4;generalize W.heap.size=BX at *;clear W;go_region_held3 (fun F=>F.cell? ⟨BX,0,none⟩=some (.slice a1 ll q1)/\F.cell? ⟨BX,1,none⟩=some (.int .i64 bi))
    (first
     |go_keep
     |exact⟨(k5 0).trans x0,(k5 1).trans x1⟩
     |exact⟨((f.alloc f.size _).cell hX).trans x0,((f.alloc f.size _).cell hX).trans x1⟩
     |exact⟨(f.cell hX).trans x0,(f.cell hX).trans x1⟩
     |exact⟨(Y.cell hX).trans x0,(Y.cell hX).trans x1⟩)
    (first
     |(go_at_call 92;refine(HK.out _ (Below.refl _ V).drew).mono ?_;rintro e H ⟨rfl,hb1⟩;have Y:Below V.heap.size V H:=(Below.refl _ V).drew.trans hb1)
     |(go_at_call 18;refine(HB.out _).mono ?_;rintro e w2 ⟨rfl,hb2⟩;have f:Below V.heap.size V w2:=Y.trans (hb2.mono Y.size))
     |(refine kP (by rfl) _ _ (by rfl) underlying39 yV rfl (by omega) (by omega) (B:=w.heap.size+1+1) (by rfl) (by exact vA (vA HV.out f) (cA _ _)) [.string SK,.string S8] (by rfl) rfl (by exact Ja ⟨_,rfl,World.news_of_block (cs:=#[.string SK,.string S8]) (heap_alloc_new _ _)⟩) (by simp[Value.oneCell']) (by omega) (by have:=f.size;simp;omega) ?_;intro g5 c5 w5 ho5 I hk5 hg5;clear hg5;have k5:∀i,w5.cell? ⟨BX,i,none⟩=V.cell? ⟨BX,i,none⟩:=fun i=>(World.cell?_of_block (hk5 BX (by have:=f.size;simp;omega) (by omega))).trans ((f.alloc f.size (.cells #[.string SK,.string S8] 9)).cell hX);have G5:Hid (GE w w5 #[.bool t,.bool s,.bool m,.bool n,.bool c] #[.int .i64 k,.string D,.string C,.int .i64 E,.slice (some ⟨b,o,none⟩) d.length l] (.slice (some ⟨g5,0,none⟩) (z+2) c5) (ps++[SK,S8])):=bA ((G.out.later (nA f (cA w2 (.cells #[.string SK,.string S8] 9)))).turn (qs:=[SK,S8]) ⟨I.os,I.tape,I.output,I.size,fun q hq hn=>hk5 q hq fun e=>hn ⟨by omega,by subst e;rfl⟩⟩ (by rw[<-HZ.out];exact ho5));clear ho5 I hk5))
   clear k5;go_wp2;exact⟨⟨j+1,g5,c5,z+2,by omega,by go_num,rfl,by omega,bA (by rw[E2.out,HZ.out];simp),bA (by rw[E2.out];exact G5.out)⟩,by simp[intOf];omega⟩
  ·obtain rfl:j=d.length:=by omega
   rw[Wb]at HZ G;generalize P++dH d=ps at *;replace HZ:=HZ.out;subst HZ;clear HF HH J hj;go_upto_if 47 with fail;go_cut [5] (fun v wx=>∃g A,v=.slice (some ⟨g,0,none⟩) (ps++Q3).length A/\GE w wx #[.bool t,.bool s,.bool m,.bool n,.bool c] #[.int .i64 k,.string D,.string C,.int .i64 E,.slice a d.length l] v (ps++Q3))
   case first=>
    rcases A3.out with⟨p,x,rfl,zx,y⟩|⟨p,rfl⟩
    ·rw[p]at M |-
     replace y:=bA y;go_wp2_with fail;refine(y.out _).mono ?_;rintro e H ⟨rfl,u⟩;replace G:=bA (G.out.later u);go_wp2_with(at_builtin;refine gN rfl _ _ rfl underlying39 yV rfl (by omega) (by omega) (by rfl) G.out.V (by rfl) (by rfl) rfl (by simp[Value.oneCell']) (by first|omega|(simp<;>omega)) G.out.size ?_;intro g2 c2 w2 h1 h2;have G2:=bA (G.out.turn (qs:=[x]) h2.out h1.out));go_wp2;go_meet;exact⟨g2,c2,by simp,by simpa using G2.out⟩
    ·rw[p]at M |-
     go_wp2;go_meet;exact⟨g,_,by rw[Id]<;>rfl,by simpa using G.out⟩
   clear M G;obtain⟨g,A,rfl,G⟩:=hcut;replace G:=bA G;rename World=>W;obtain⟨K,L,M,O,s4⟩:=G.out.S.c5;obtain⟨r0,r1,r2,r3,r4⟩:=G.out.R.c5;have hl3:(ps++Q3).length<=1100:=by simp;omega
   generalize ps++Q3=p3 at *;go_upto_if 55 with fail;go_cut [5] (fun v wx=>∃g A,v=.slice (some ⟨g,0,none⟩) (p3++Q4).length A/\GE w wx #[.bool t,.bool s,.bool m,.bool n,.bool c] #[.int .i64 k,.string D,.string C,.int .i64 E,.slice a d.length l] v (p3++Q4))
   case first=>
    rcases A4.out with⟨p,x,rfl,zx,y⟩|⟨p,rfl⟩
    ·rw[p]at O |-
     replace y:=bA y;go_wp2_with fail;refine(y.out _).mono ?_;rintro e H ⟨rfl,u⟩;replace G:=bA (G.out.later u);go_wp2_with(at_builtin;refine gN rfl _ _ rfl underlying39 yV rfl (by omega) (by omega) (by rfl) G.out.V (by rfl) (by rfl) rfl (by simp[Value.oneCell']) (by first|omega|(simp<;>omega)) G.out.size ?_;intro g2 c2 w2 h1 h2;have G2:=bA (G.out.turn (qs:=[x]) h2.out h1.out));go_wp2;go_meet;exact⟨g2,c2,by simp,by simpa using G2.out⟩
    ·rw[p]at O |-
     go_wp2;go_meet;exact⟨g,_,by rw[Id]<;>rfl,by simpa using G.out⟩
   clear O G;obtain⟨g,A,rfl,G⟩:=hcut;replace G:=bA G;rename World=>W;obtain⟨K,L,M,O,s4⟩:=G.out.S.c5;obtain⟨r0,r1,r2,r3,r4⟩:=G.out.R.c5;have hl4:(p3++Q4).length<=1200:=by simp;omega
   generalize p3++Q4=p4 at *;obtain⟨hcv,hg,hcs⟩:=lH G.out.V;have HJ:=bA (eK g _ A p4 W rfl hcs hg hcv (by omega) hsum);rw[HX.out]at HJ;clear hcv hg hcs K L M O s4 r0 r1 r2 r3 r4;go_wp2_with fail;refine HJ.out.mono ?_;rintro e w9 ⟨rfl,hb9⟩;have B9:=bA (nA G.out.N hb9);clear hb9;go_wp2;go_ret;exact⟨rfl,B9.out⟩
def dc (B:Nat) (s:ByteArray) (w:World) (e:Ending) (a:World):Prop:=
 ((aF s).2.r9=false/\∃c b,e=.returned (.tuple #[.int .i64 (jB (MU s).1),.agg #[.int .i64 (jB (CE s).1),.slice c (aF s).1.length b]])/\oC a w.heap.size c (aF s).1/\RT a B (aF s).2/\dB B w a)\/
 ((aF s).2.r9=true/\e=.panicked aM/\dB B w a)
theorem aCf {B k:Nat} {c:Rd} (m:c.rest.size<=1000000000) (f:(pJ c k).2.r9=false):∃(t:dA) (b:Rd),Hid (∀W,RT W B (pJ c k).2->Calls prog 97 #[.pointer (some ⟨B,0,none⟩)] W fun e a=>(b.r9=false/\∃M d j i l,e=.returned (.agg #[.string t.name,.int .i64 t.l9,.slice d t.m9.length j,.slice i t.s9.length l])/\W.heap.size<=M/\dC a W.heap.size d t.m9/\(∀g o,d=some ⟨g,o,none⟩->g<M)/\dC a M i t.s9/\M<=a.heap.size/\RT a B b/\dB B W a)\/(b.r9=true/\e=.panicked aM/\dB B W a))/\Hid ((pJ c (k+1)).1=(pJ c k).1++[t])/\Hid ((pJ c (k+1)).2=b)/\17*k<=1000000000:=
 ⟨_,_,fun W h=>ci B _ W h (Ra (wm c k) m),bA (by rw[EA]),bA (by rw[EA]),by have:=pm k f;omega⟩
theorem dy (B:Nat) (s:ByteArray) (w:World) (hB:RT w B ⟨s,false⟩) (hs:s.size<=1000000000):
 Calls prog 51 #[.pointer (some ⟨B,0,none⟩)] w fun e w'=>dc B s w e w':=by
 have m:B<w.heap.size:=by obtain⟨t,h⟩:=hB;exact aA h
 have G:Hid (TG w (w.alloc (.cells #[.int .i64 0,.slice none 0 0] 51)) B w.heap.size #[.int .i64 0,.slice none 0 0] 51 ⟨s,false⟩):=⟨eA.new _ _ _,dB.of (cA _ _),hB.laterD (cA _ _)⟩
 have u:=bA (fun W h=>EH B ⟨s,false⟩ 4 W h (by omega) hs);have h0:=Ra (xG 4 ⟨s,false⟩).2.2 hs;unfold dc aF scR CE MU ckR;clear hB hs;generalize uB 4 ⟨s,false⟩=A at *;obtain⟨xx,r0⟩:=A;dsimp only at h0 u |-
 have x:=bA (fun W h=>pI B r0 8 W h (by omega) h0);have h1:=Ra (vM 8 r0) h0;generalize zA 8 r0=A at *;obtain⟨L0,r1⟩:=A;dsimp only at h1 x |-
 generalize jB L0=L at *;have y:=bA (fun W h=>pI B r1 8 W h (by omega) h1);have h2:=Ra (vM 8 r1) h1;have S1:=bA (fun(h:r1.r9=true)=>bD (k:=8) h);generalize zA 8 r1=A at *;obtain⟨N0,P⟩:=A;dsimp only at h2 y S1 |-
 generalize jB N0=N at *;have z:=bA (fun W h=>vv B P W h h2);have hn:(zA 4 P).1<4294967296:=nL 4 P;have h3:=Ra (vM 4 P) h2;have S2:=bA (fun(h:P.r9=true)=>bD (k:=4) h);generalize zA 4 P=A at *;obtain⟨n,c⟩:=A;dsimp only at h3 hn z S2 |-
 have S5:=bA (fun k (hk:k<=n) h=>LR (r:=c) (k:=k) h n hk);have S3:=bA (fun(h:c.r9=true)=>S5.out 0 (La _) (by rw[rS];exact h));obtain⟨tB,hBB⟩:=G.out.T;clear hBB;go_enter func51,ntmps51;go_wp2_with fail;refine(u.out _ G.out.T).mono ?_;rintro e w1 ⟨rfl,p,d⟩;replace G:=bA (G.out.call p d m);clear p d u;go_wp2_with fail;refine(x.out _ G.out.T).mono ?_;rintro e w2 (⟨rfl,-,p,d⟩|⟨rfl,l,d⟩);rotate_left
 ·exact⟨rfl,Ja ⟨S3.out (S2.out (S1.out l)),rfl,G.out.N.trans d⟩⟩
 replace G:=bA (G.out.call p d m);clear p d x S1;go_wp2_with fail;refine(y.out _ G.out.T).mono ?_;rintro e w3 (⟨rfl,-,p,d⟩|⟨rfl,l,d⟩);rotate_left
 ·exact⟨rfl,Ja ⟨S3.out (S2.out l),rfl,G.out.N.trans d⟩⟩
 replace G:=bA (G.out.call p d m);clear p d y S2;have hR1:=aA G.out.Z;have X:=bA (eA.new w3 #[.int .i64 N,.slice none 0 0] 51);replace G:=bA (G.out.alloc (.cells #[.int .i64 N,.slice none 0 0] 51));go_wp2_with fail;refine(z.out _ G.out.T).2.mono ?_;rintro e w4 (⟨rfl,d0,p,d⟩|⟨rfl,l,d⟩);rotate_left
 ·exact⟨rfl,Ja ⟨S3.out l,rfl,G.out.N.trans d⟩⟩
 replace G:=bA (G.out.call p d m);replace X:=bA (X.out.but d (by omega));have Q:=bA d0;clear p d z S3 d0;generalize w3.heap.size=R at *;go_wp2;go_loopw [17] (fun i wr=>∃(k:Nat) (v:Value),k<=n/\i=.int .i64 k/\Hid (TG w wr B w.heap.size #[.int .i64 0,.slice none 0 0] 51 (pJ c k).2)/\Hid (eA wr R #[.int .i64 N,v] 51)/\Hid (gS wr (R+1) 100 v k (pJ c k).1)/\Hid ((pJ c k).2.r9=false)) (fun i _=>n-(intOf i).toNat)
 case atStart=>exact⟨0,_,La _,rfl,bA (by rw[rS];exact G.out),X.out,bA (by rw[rS];exact gS.nil _ _ _),bA (by rw[rS];exact Q.out)⟩
 case round=>
  clear G X Q;obtain⟨k,v,hk,rfl,G,X,HV,C⟩:=hrel;by_cases hlt:k<n
  ·obtain⟨t,rA,P1,F1,F2,hk17⟩:=aCf (B:=B) h3 C.out;have HTS:Hid (rA.r9=true->(pJ c n).2.r9=true):=bA (by rw[<-F2.out];exact S5.out (k+1) hlt);have o:=lW c k;obtain⟨T,ys,E,F,U,V⟩:=HV.out;have HY:=bA (⟨F,by rw[<-F,Rb]at o;exact o,U,V,E.lt⟩:_/\ys.length=k/\_/\_/\_);have HR:=bA E;have hRw:=aA X.out;have c0:wr.cell? ⟨R,1,none⟩=some v:=X.out.cell 1;clear C E F U V o;go_wp2_with fail;go_region_law (first
    |((fail_if_success (have q:=a));refine lG (f:=97) (args:=#[.pointer (some ⟨B,0,none⟩)]) rfl (by go_simp) ?_;refine(P1.out _ (G.out.T.laterD (Below.refl _ _).drew)).mono ?_;rintro e w4 (⟨sA,M,a1,d1,a2,d2,rfl,o1,o2,o3,o4,o5,a,H⟩|⟨l,rfl,H⟩);rotate_left;exact Ja ⟨_,rfl,rfl,Ja ⟨HTS.out l,rfl,G.out.N.trans ((qN (dB.refl B wr)).trans H)⟩⟩;have J:dB B wr w4:=(qN (dB.refl B wr)).trans H;have S:=bA (X.out.but J (show R≠B by omega));have x4:=S.out.cell 1;have x5:=(S.out.alloc (.cells #[.string t.name,.int .i64 t.l9,.slice a1 t.m9.length d1,.slice a2 t.s9.length d2] 100)).cell 1;have O:=bA (⟨o1,o2,o3,o4,o5⟩:_/\_/\_/\_/\_);clear o1 o2 o3 o4 o5;refine Ca ⟨_,rfl,?_⟩)
    |(have q:=a;clear q;refine nX (by rfl) _ _ (by rfl) underlying49 yN rfl (by omega) (by omega) (v:=v) (by rfl) ((gA.but J).row HR.out (fun g K e=>by have:=(HR.out.lt g K).1;omega)) (by rfl) (by rfl) rfl (by simp[Value.oneCell']) (by omega) (by have:=J.size;omega) ?_;intro gg cap w5 HO HT HA;have s5:=(HT.out.blk S.out (fun e=>by omega)).cell 1;have b:=(HT.out.blk S.out (fun e=>by omega)).free 1))
   all_goals
    obtain⟨y1,y2,y3⟩:=pT S.out HT.out HO.out (Ye _) 1;have Y:=fun g (K:g<w4.heap.size) (h:R+1<=g) (I:v.ownBlock≠some g)=>y3.block g K (fun e=>e.elim (fun e=>by omega) fun e=>I e.2);obtain⟨v1,v2,v3,v4,v5⟩:=HY.out;have z4:=J.size;go_wp2;exact⟨⟨k+1,_,by omega,by go_num,bA (by rw[F2.out];exact(G.out.call a J m).turn y3 (fun j e=>by omega) m (Ka _)),bA (by simpa using y1),bA (by
     rw[F1.out];exact gS.snoc (wr:=wr) (w4:=w4) (M:=M) (v:=v) (T:=T) (ys:=ys) y2 v1 v2 v3 v4 (by omega) O.out.1 (fun g K d I=>(Y g (by omega) d I).trans (J.block g K (by omega))) (fun g K hg4=>Y g hg4 (by omega) (fun e=>by have:=(v5 _ e).2;omega)) O.out.2.1 O.out.2.2.1 O.out.2.2.2.1 (HA.out.elim (fun h=>Ca ⟨h,(v5 _ h).2⟩) Ja) z4 O.out.2.2.2.2),bA (by rw[F2.out];exact sA)⟩,by simp[intOf];omega⟩
  ·obtain rfl:k=n:=by omega
   obtain⟨ra,rc,rfl⟩:=HV.out.row;obtain⟨a0,a1⟩:=X.out.c2;obtain⟨b0,b1⟩:=G.out.Z.c2;have e0:=G.out.Z.free;have hZ:=aA G.out.Z;go_wp2_with fail;go_region
   go_wp2;have D:=fun x0 x1=>(((gA.refl (·=w.heap.size) wr).setCell (Ca rfl) 0 x0).setCell (Ca rfl) 1 x1).drew;refine bodyPost_ret (v:=?_) (by simp[results,results51,go_sem,b0,b1];rfl) rfl (Ca ⟨C.out,ra,rc,by rw[lW],((HV.out.turn (D _ _) (fun g e=>by omega)).own (lW c k)).mono (by omega),G.out.T.imp fun _ h=>(D _ _).blk h (by omega),G.out.N.upToD ((D _ _).below (by omega) fun q hq e=>by omega)⟩)
