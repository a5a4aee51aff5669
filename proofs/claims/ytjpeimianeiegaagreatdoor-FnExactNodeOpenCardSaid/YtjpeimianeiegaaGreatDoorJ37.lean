import Derived.Test.YtjpeimianeiegaaGreatDoorJ35
import Derived.Deep.WholeRow
import Derived.RangeFuncBox
import Derived.Test.YtjpeimianeiegaaGreatDoorJ33
set_option maxRecDepth 100000
set_option maxHeartbeats 2000000
namespace Go.Proofs.YtjpeimianeiegaaGreatDoor
open Go.RowKit Tryz
theorem gx (a u b v:Option Addr) (G i H j:Nat) (N:cF) (w:World) (O:iA w a N.d.fs) (o:iA w u N.d.fs) (hl:N.d.fs.length<=maxLen) (P:eC w b N.ts) (p:eC w v N.ts) (B:N.ts.length<=maxLen) (M:aEb N.ts):
 Calls prog 9 #[.agg (cG a G b H N),.agg (cG u i v j N)] w fun e w'=>e=.returned (.bool true)/\Below w.heap.size w w':=by
 unfold cG;have D:=bA (fun W (n:Below w.heap.size w W)=>JU a u G i N.d.fs N.d.c N.d.k N.d.cr N.d.fl N.d.dn W (O.later n) (o.later n) hl);have E:=bA (fun W=>qt N.l.first N.l.last N.l.size W);have F:=bA (fun W (n:Below w.heap.size w W)=>YX N.now b v H j N.ts W (P.later n) (p.later n) B M);clear O o P p M;go_enter func9,ntmps9;go_wp2_with fail;refine(D.out _ (pA (cA _ _) (cA _ _))).mono ?_;rintro e w1 ⟨rfl,f⟩;have Q:=bA (pA (pA (cA _ _) (cA _ _)) f);have q:=bA (((lA.new w _ _).alloc _).later f);have s:=bA ((lA.new (w.alloc _) _ _).later f);obtain⟨_,_,_,_,_,_,V,X,Y,_,_,_,_,_⟩:=q.out.n14;obtain⟨_,_,_,_,_,_,I,J,K,_,_,_,_,_⟩:=s.out.n14;simp only[World.size_alloc]at I J K;clear f D;go_wp2_with fail;refine(E.out _).mono ?_;rintro e w2 ⟨rfl,g⟩;have C:=bA (pA Q.out g);have r:=bA (q.out.later g);have t:=bA (s.out.later g);obtain⟨_,_,_,_,_,_,_,_,_,Z,x,_,_,_⟩:=r.out.n14;obtain⟨_,_,_,_,_,_,_,_,_,L,m,_,_,_⟩:=t.out.n14;simp only[World.size_alloc]at L m;clear g E V X Y I J K q s;go_wp2_with fail;refine(F.out _ C.out).mono ?_;rintro e w3 ⟨rfl,h⟩;have R:=bA (pA C.out h);obtain⟨_,_,_,_,_,_,_,_,_,_,_,S,T,U⟩:=(r.out.later h).n14;obtain⟨_,_,_,_,_,_,_,_,_,_,_,y,z,A⟩:=(t.out.later h).n14;simp only[World.size_alloc]at y z A;clear h F Z x L m r t;go_wp2;go_ret;exact⟨rfl,R.out⟩
theorem gA.end2 {C:World->Prop} {S:Nat->Prop} (w:World) {a:World} (h:gA S w a) (k:∀W,gA S w W->C W):C a:=k a h
structure qQ (w:World) (A:Nat→Prop) (a b:Option Addr) (N:cF):Prop where
 parts:∃F T,aH w F a N.d.fs∧nT w T b N.ts∧(∀x,F x→A x)∧(∀x,T x→A x)∧∀x,F x→¬T x
theorem qQ.files {w:World} {A:Nat->Prop} {a b:Option Addr} {N:cF} (h:qQ w A a b N):iA w a N.d.fs:=by
 obtain⟨F,T,c,e,_⟩:=h.parts;exact c.files
theorem qQ.tens {w:World} {A:Nat->Prop} {a b:Option Addr} {N:cF} (h:qQ w A a b N):eC w b N.ts:=by
 obtain⟨F,T,d,c,_⟩:=h.parts;exact c.tens
theorem qQ.turned {S A:Nat->Prop} {w j:World} {a b:Option Addr} {N:cF} (h:qQ w A a b N) (i:gA S w j) (f:∀g,A g->g<w.heap.size->¬S g):qQ j A a b N:=by
 obtain⟨F,T,k,l,d,e,m⟩:=h.parts;exact⟨F,T,k.turned i (fun g c=>f g (d g c)),l.turned i (fun g c=>f g (e g c)),d,e,m⟩
theorem qQ.mono {A d:Nat->Prop} {w:World} {a b:Option Addr} {N:cF} (h:qQ w A a b N) (e:∀x,A x->d x):qQ w d a b N:=by
 obtain⟨F,T,f,g,i,j,k⟩:=h.parts;exact⟨F,T,f,g,fun x c=>e x (i x c),fun x c=>e x (j x c),k⟩
theorem ZV (a b:Option Addr) (y z:Nat) (N:cF) (A:Nat->Prop) (w:World) (h:qQ w A a b N) (H:∀x,A x->x<w.heap.size) (p:1+3*N.d.fs.length+yB N.ts<=100000000):
 Calls prog 12 #[.agg (cG a y b z N),.int .i64 1] w fun e r=>e=.returned (.int .i64 ((1+3*N.d.fs.length+yB N.ts:Nat):Int))/\gA A w r/\iA r a (nP 1 N.d.fs.length)/\eC r b (mF (1+3*N.d.fs.length) N.ts):=by
 unfold cG;obtain⟨F,T,B,C,D,E,G⟩:=h.parts;have u:=bA (fun W (n:Below w.heap.size w W)=>VW a y N.d.fs N.d.c N.d.k N.d.cr N.d.fl N.d.dn 1 F W (by omega) (by omega) (B.later n));have v:=bA (fun W (n:nT W T b N.ts)=>tk N.now b z N.ts (1+3*N.d.fs.length) T W (by omega) p n);have K:=bA C;have s:=bA D;have L:=bA E;have t:=bA G;have M:=bA H;clear h B C D E G H;go_enter func12,ntmps12;go_wp2_with fail;refine(u.out _ (cA _ _)).mono ?_;rintro e V ⟨rfl,f,j⟩;have U:¬F w.heap.size:=fun h=>by have:=M.out _ (s.out _ h);omega
 have Q:=bA ((gA.of (cA _ _)).trans' f);have I:=bA j;have O:=bA ((K.out.later (cA _ _)).turned f (fun g o _ h=>t.out g h o));obtain⟨_,_,_,_,_,_,_,_,_,S,m,_,_,_⟩:=(f.blk (lA.new w _ _) U).n14;clear f j u;go_wp2_with fail;refine(v.out _ O.out).mono ?_;rintro e X ⟨rfl,i,l⟩;have J:=bA (I.out.turned i (fun g o _ h=>t.out g o h));have R:=bA ((Q.out.mono (fun x _ q=>s.out x q)).trans' (i.mono (fun x _ q=>L.out x q)));have P:=bA l;clear S m i l v;go_wp2;go_ret;exact⟨rfl,R.out,J.out.files,P.out⟩
theorem ZF (a b:Option Addr) (s t n:Nat) (c k u x:Int) (v:Bool) (L:zH) (g o:Int) (j C:Bool) (h:List eA) (w:World) (y:iA w a (nP 1 n)) (z:eC w b (mF (1+3*n) h)) (m:1+3*n+yB h<=100000000):
 Calls prog 13 #[.agg #[.slice a n s,.int .i64 c,.int .i64 k,.int .i64 u,.int .i64 x,.bool v,.int .i64 L.first,.int .i64 L.last,.int .i64 L.size,.int .i64 g,.slice b h.length t,.int .i64 o,.bool j,.bool C],.int .i64 1] w fun e D=>e=.returned (.int .i64 ((1+3*n+yB h:Nat):Int))/\Below w.heap.size w D:=by
 have q:=bA (fun W (l:Below w.heap.size w W)=>ZE a s c k u x v 1 n W (by omega) (by omega) (y.later l));have r:=bA (fun W (l:Below w.heap.size w W)=>SN g b t h (1+3*n) W (by omega) m (z.later l));clear y z;go_enter func13,ntmps13;go_wp2_with fail;refine(q.out _ (cA _ _)).mono ?_;rintro e E ⟨rfl,d⟩;have p:=bA (pA (cA _ _) d);obtain⟨_,_,_,_,_,_,_,_,_,B,i,_,_,_⟩:=(lA.later (lA.new w _ _) d).n14;clear d q;go_wp2_with fail;refine(r.out _ p.out).mono ?_;rintro e F ⟨rfl,f⟩;have A:=bA (pA p.out f);clear f r B i;go_wp2;go_ret;exact⟨rfl,A.out⟩
def wO:cF:=⟨⟨[],0,0,0,0,false⟩,⟨0,0,0⟩,0,[],0,false,false⟩
structure C14 (cs:Array Value):Prop where
 size:cs.size=14
 one:cs.all (·.oneCell')=true
theorem fU (a b:Option Addr) (c d:Nat) (N:cF):C14 (cG a c b d N):=⟨rfl,by simp[cG,Value.oneCell']⟩
def JG (W:World) (X:Nat):Prop:=∃a T,lA W X a T/\a.size=14
theorem lA.box {W:World} {X:Nat} {cs:Array Value} {T:TypeId} (h:lA W X cs T) (a:cs.size=14):JG W X:=⟨cs,T,h,a⟩
theorem xP (a:Option Addr) (e:Nat) (b:Option Addr) (f:Nat) (N:cF):#[.slice a N.d.fs.length e,.int .i64 N.d.c,.int .i64 N.d.k,.int .i64 N.d.cr,.int .i64 N.d.fl,.bool N.d.dn,.int .i64 N.l.first,.int .i64 N.l.last,.int .i64 N.l.size,.int .i64 N.now,.slice b N.ts.length f,.int .i64 N.lsn,.bool N.deg,.bool N.up]=cG a e b f N:=rfl
theorem ad:#[.slice none 0 0,.int .i64 0,.int .i64 0,.int .i64 0,.int .i64 0,.bool false,.int .i64 0,.int .i64 0,.int .i64 0,.int .i64 0,.slice none 0 0,.int .i64 0,.bool false,.bool false]=cG none 0 none 0 wO:=rfl
theorem AZ (a b:Option Addr) (c d:Nat) (N:cF):(cG a c b d N).size=14:=rfl
theorem bd {W:World} {X:Nat} {cs:Array Value} (h:JG W X) (a:C14 cs):(storeCells ⟨X,0,none⟩ cs.toList 0).run prog W=.ok () (W.setRow X cs):=by
 obtain⟨e,T,d,b⟩:=h;have:=run_storeCells_from (P:=prog) X T cs.toList 0 e W d (by simp[b,a.size]) (fun v c=>(Array.all_eq_true_iff_forall_mem.1 a.one) v (by simpa using c));simpa using this
theorem lA.drewI {W:World} {X:Nat} {cs:Array Value} {T:TypeId}:lA W.drew X cs T ↔ lA W X cs T:=Iff.rfl
theorem JG.drewI {W:World} {X:Nat}:JG W.drew X ↔ JG W X:=Iff.rfl
theorem JG.new (w:World) (a b:Option Addr) (ca c:Nat) (N:cF) (T:TypeId):JG (w.alloc (.cells (cG a ca b c N) T)) w.heap.size:=(lA.new w _ T).box rfl
theorem JG.alloc {W:World} {X:Nat} (h:JG W X) (o:Obj):JG (W.alloc o) X:=by
 obtain⟨c,T,b,a⟩:=h;exact⟨c,T,b.alloc o,a⟩
theorem JG.alloc2 {W:World} {X:Nat} (h:JG W X) (o a:Obj):JG ((W.alloc o).alloc a) X:=(h.alloc o).alloc a
theorem lA.row {W:World} {X:Nat} {a cs:Array Value} {T:TypeId} (h:lA W X a T):lA (W.setRow X cs) X cs T:=setRow_heap _ _ _ _ _ _ h
theorem sR (W:World) (X:Nat) (cs:Array Value):gA (·=X) W (W.setRow X cs):=⟨rfl,rfl,rfl,by simp,fun k _ a=>setRow_other _ _ _ _ a⟩
theorem ab (a b:Option Addr) (c d:Nat) (N:cF):∀(j:Nat) (s:ByteArray),(cG a c b d N)[j]?≠some (Value.string s):=fun j s=>by
 unfold cG;match j with
 |0|1|2|3|4|5|6|7|8|9|10|11|12|13=>simp
 |j+14=>simp
section
variable {w W:World} {P:Nat} {cs:Array Value} {t:TypeId}
theorem mV (g:lA w P cs t) (f:∀(j:Nat) (s:ByteArray),cs[j]?≠some (Value.string s)) (d:gA (·=P) w W) {b o:Nat} {s:ByteArray} (c:b<w.heap.size) (h:w.cell? ⟨b,o,none⟩=some (.string s)):b<W.heap.size/\∀j,W.cell? ⟨b,j,none⟩=w.cell? ⟨b,j,none⟩:=by
 have a:b≠P:=fun e=>by subst e;rw[g.cell]at h;exact f _ _ h
 exact⟨Ab c d.size,fun j=>World.cell?_of_block (d.block b c a)⟩
theorem iA.store (m:lA w P cs t) (k:∀(j:Nat) (s:ByteArray),cs[j]?≠some (Value.string s)) (l:gA (·=P) w W) {a:Option Addr} {c:List dA} (h:iA w a c):iA W a c:=by
 rcases h with h|⟨b,o,e,d,h⟩
 ·exact Ba h
 ·cases c with
  |nil=>exact Ba rfl
  |cons f r=>
   obtain⟨n,p⟩:=mV m k l d (h 0 (by simp)).1;exact Ea ⟨b,o,e,n,fun i g=>by simp only[p];exact h i g⟩
theorem vA.store (m:lA w P cs t) (k:∀(j:Nat) (s:ByteArray),cs[j]?≠some (Value.string s)) (l:gA (·=P) w W) {a:Option Addr} {c:List fA} (h:vA w a c):vA W a c:=by
 rcases h with h|⟨b,o,e,d,h⟩
 ·exact Ba h
 ·cases c with
  |nil=>exact Ba rfl
  |cons f r=>
   obtain⟨n,p⟩:=mV m k l d (h 0 (by simp)).1;exact Ea ⟨b,o,e,n,fun i g=>by simp only[p];exact h i g⟩
theorem eC.store (l:lA w P cs t) (g:∀(j:Nat) (s:ByteArray),cs[j]?≠some (Value.string s)) (k:gA (·=P) w W) {a:Option Addr} {m:List eA} (h:eC w a m):eC W a m:=by
 rcases h with h|⟨b,o,e,B,h⟩
 ·exact Ba h
 ·cases m with
  |nil=>exact Ba rfl
  |cons f r=>
   obtain⟨_,_,_,_,d,_⟩:=h 0 (by simp);obtain⟨D,c⟩:=mV l g k B d;refine Ea ⟨b,o,e,D,fun i C=>?_⟩;obtain⟨n,q,p,u,v,d,x,y,z,A⟩:=h i C;exact⟨n,q,p,u,(c _).trans v,(c _).trans d,(c _).trans x,(c _).trans y,z.store l g k,A.store l g k⟩
end
theorem aX (d:ByteArray) (p:Nat) (h:p<=d.size):(d.extract p d.size).size=d.size-p:=by rw[Yb];omega
theorem IA {d:ByteArray} (h:nH d):(d.extract 8 (8+xB d)).size=xB d/\1<=xB d/\8+xB d<=d.size:=by
 obtain⟨c,a,_,b,_⟩:=h;exact⟨kU (by omega),a,by omega⟩
theorem br (d:ByteArray) (w:World) (hs:d.size<=1000000000):
 Calls prog 51 #[.string d] w fun e w'=>∃a B,e=.returned (.tuple #[.slice a (pG d).1.length B,.int .i64 ((pG d).2:Nat)])/\yU w' w.heap.size a (pG d).1/\Below w.heap.size w w':=by
 have hml:d.size<=maxLen:=by unfold maxLen;omega
 obtain⟨ti,F,P,Q,R⟩:=DC;have HI:Hid _:=F;clear F;go_enter func51,ntmps51;go_wp2;go_loopw [4,5,6] (fun S u _ wr=>∃(n p:Nat) (b:List ByteArray) (x:Option Addr) (y:Nat),n+b.length=d.size+1/\9*b.length<=p/\p<=d.size/\Hid (b++(yK d n p).1=(pG d).1/\(yK d n p).2=(pG d).2)/\u=.int .i64 p/\S=.slice x b.length y/\Hid (wr.ownsRow w.heap.size 9 1 (.slice x b.length y) b.length (b.map Value.string))/\Below w.heap.size w wr) (fun _ u _ _=>d.size-(intOf u).toNat)
 case atStart=>
  exact⟨d.size+1,0,[],_,_,by simp,by simp,Ha _,⟨rfl,rfl⟩,rfl,rfl,World.ownsRow_made w #[] 0 (Da _) (by simp[maxLen]) (by simp),cA _ _⟩
 case round=>
  obtain⟨n,p,b,x,y,hn,hy,hp,k,rfl,rfl,j,h⟩:=hrel;obtain⟨m,rfl⟩:∃m,n=m+1:=⟨n-1,by omega⟩
  have D:=aX d p hp;have f:=fun W=>TM _ W (by rw[D];omega);by_cases z:nH (d.extract p d.size)
  ·have hl:=IA z;rw[VE,Ga z]at f;have l:yK d (m+1) p=((d.extract p d.size).extract 8 (8+xB (d.extract p d.size)):: (yK d m (p+8+((d.extract p d.size).extract 8 (8+xB (d.extract p d.size))).size)).1,(yK d m (p+8+((d.extract p d.size).extract 8 (8+xB (d.extract p d.size))).size)).2):=by rw[yK,Ga z]
   have A:Hid _:=k;have J:Hid _:=l;have t:Hid _:=f;clear f k l z;obtain⟨E,hl2,M⟩:=hl;rw[D]at M;generalize xB (d.extract p d.size)=N at *;generalize (d.extract p d.size).extract 8 (8+N)=q at *;have hne:q.toList.isEmpty=false:=RJ.2 (fun e=>by rw[e,Mg]at E;omega);have hsz:=h.size;go_wp2_with fail;refine(t.out _).mono ?_;rintro e H ⟨rfl,c⟩;have o:Hid _:=c;have Z:=c.size;clear c;go_wp2_with(at_builtin;refine wpList_append_lies _ rfl _ _ _ rfl w.heap.size 9 ti _ 1 16 underlying61 HI.out P Q R rfl (by omega) (.slice x b.length y) b.length (b.map Value.string) rfl (by exact cB (cB j.out o.out) (cA _ _)) ⟨H.heap.size,0,none⟩ 1 1 [.string q] rfl rfl (by exact World.news_of_block (heap_alloc_new _ _)) (by simp[Value.oneCell']) (by omega) (by simp[maxLen];omega) (by omega) (by simp;omega) (H.heap.size+1) (by simp) ?_;intro g5 C w5 i r X Y);have K:Below w.heap.size w w5:=(pA (pA h o.out) (cA _ _)).grown r (by simp;omega) (fun q G=>by
    rcases j.out.2 with⟨L,_⟩|⟨g,B,cur,L,hB,_⟩
    ·rw[L]at G;simp[Value.ownBlock]at G
    ·rw[L]at G;simp[Value.ownBlock]at G;omega)
   have O:b.map Value.string++[Value.string q]=(b++[q]).map Value.string:=by simp
   have s:(b++[q]).length=b.length+1:=by simp
   rw[O,<-s]at i;have U:=A.out.1;have V:=A.out.2;rw[J.out]at U V;refine⟨⟨m,p+8+q.size,b++[q],some ⟨g5,0,none⟩,C,by rw[s];omega,by rw[s];omega,by omega,⟨by rw[<-U];simp,V⟩,by rw[E];go_num,by rw[s],i,K⟩,by simp[intOf];omega⟩
  ·rw[VE,Ca z]at f;have l:yK d (m+1) p=([],p):=by rw[yK,Ca z]
   rw[l]at k;have t:Hid _:=f;clear f l z;go_wp2_with fail;refine(t.out _).mono ?_;rintro e H ⟨rfl,c⟩;have o:Hid _:=pA h c;have I:Hid (H.ownsRow w.heap.size 9 1 (.slice x b.length y) b.length (b.map Value.string)):=cB j.out c;clear c;go_wp2;have T:b=(pG d).1:=by have:=k.out.1;simpa using this
   have e2:=k.out.2;refine bodyPost_ret (v:=.tuple #[.slice x b.length y,.int .i64 p]) (by simp[results,results51,go_sem]) rfl ⟨x,y,?_,?_,o.out⟩
   ·rw[T,e2]
   ·rw[<-T];exact qS I.out
section
attribute [local go_sem] Oper.semAt_some
def yH (d:ByteArray):Nat->Nat->List (ByteArray×Nat)
 |0,_=>[]
 |n+1,p=>haveI:=frD (d.extract p d.size);if nH (d.extract p d.size) then
  let q:=(d.extract p d.size).extract 8 (8+xB (d.extract p d.size))
  (q,p+8+q.size):: yH d n (p+8+q.size) else []
def gq (x:ByteArray×Nat):Array Value:=#[.string x.1,.int .i64 (x.2:Nat)]
def aF (D:Nat) (W c:World):Prop:=∀b o,W.heap[b]?=some o->(b=D\/∃a,o=.cells a 317 (0,0))->c.heap[b]?=some o
theorem aF.trans {D:Nat} {A B C:World} (h:aF D A B) (k:aF D B C):aF D A C:=fun b o c a=>k b o (h b o c a) a
theorem OZ {A B:World} (h:Below A.heap.size A B):A.grownBy B none:=⟨h.os,h.tape,h.output,h.size,fun k a _=>h.block k a⟩
theorem zU {β:Type} {N:Nat} {J:β->World->Prop} (h:AbidesFrom N J) {s:β} {A B:World} (b:J s A) (a:Below A.heap.size A B):J s B:=h s A B none b (OZ a) (fun _ e=>by cases e)
theorem qz (n l D Z:Nat) (hn:1<=n) (d:ByteArray) (hd:d.size<=1000000000) (J S:List (ByteArray×Nat)->World->Prop) (s:AbidesFrom Z J)
 (hY:∀a x W,J a W->a.length<(yH d (d.size+1) 0).length->YieldAt Fence.wide (n-1) prog l (gq x) W fun e y=>
  (e=.returned (.bool true)/\J (a++[x]) y/\aF D W y)\/(e=.returned (.bool false)/\S (a++[x]) y))
 (W:World) (hD:lA W D #[.string d] 9) (h0:J [] W):
 CallsIn Fence.wide n prog 223 #[.func (.yield l) #[] #[],.pointer (some ⟨D,0,none⟩)] W fun e y=>(∃v,e=.returned v)/\
  ((∃Y,Y=yH d (d.size+1) 0/\J Y y)\/(∃a,True/\S a y)):=by
 refine callsIn_of_wp func223 rfl trivial ?_ rfl;simp only[ntmps223,Yd,Sa,Kc,Nat.reduceAdd,Nat.reduceSub,Ig,Jg,List.push_toArray,Rg,Jb,Hd];gi_wp2_with fail;refine⟨trivial,(callsIn_wide.2 (KI _)).mono ?_⟩;rintro e R ⟨b,f,rfl,M,V,o,t⟩;have HT:Hid (lA R b f 317/\lA R D #[.string d] 9/\J [] R):=⟨V,hD.later t,zU s h0 t⟩
 have HC:Hid _:=o;clear V o t M;gi_wp2;gi_loopw [4,5,6] (fun c _ _ wr=>∃(k p:Nat) (a:List (ByteArray×Nat)),k+a.length=d.size+1/\9*a.length<=p/\p<=d.size/\c=.int .i64 p/\Hid (a++yH d k p=yH d (d.size+1) 0)/\Hid (lA wr b f 317/\lA wr D #[.string d] 9/\J a wr)) (fun c _ _ _=>d.size-(intOf c).toNat)
 case atStart=>exact⟨d.size+1,0,[],by simp,by simp,Ha _,rfl,rfl,HT⟩
 case round=>
  obtain⟨k,p,a,hk,hy,hp,rfl,w,hw⟩:=hrel;obtain⟨m,rfl⟩:∃m,k=m+1:=⟨k-1,by omega⟩
  have A:=aX d p hp;have hcd:wr.cell? ⟨D,0,none⟩=some (.string d):=by rw[hw.out.2.1.cell];rfl
  have hpi:(p:Int)<=(d.size:Int):=by omega
  have h:Hid (∀x,lA x b f 317->Calls prog 224 #[.string (d.extract p d.size),.pointer (some ⟨b,0,none⟩)] x fun e I=>(∃q,e=.returned (.tuple #[.string q,.bool (frB (d.extract p d.size))])/\(nH (d.extract p d.size)->q=(d.extract p d.size).extract 8 (8+xB (d.extract p d.size))))/\Below x.heap.size x I):=
   fun x Q=>jb _ b f x (by rw[A];unfold maxLen;omega) Q HC.out
  by_cases j:nH (d.extract p d.size)
  ·have hl:=IA j;have i:Hid (yH d (m+1) p=((d.extract p d.size).extract 8 (8+xB (d.extract p d.size)),p+8+((d.extract p d.size).extract 8 (8+xB (d.extract p d.size))).size):: yH d m (p+8+((d.extract p d.size).extract 8 (8+xB (d.extract p d.size))).size)):=by show _=_;rw[yH,Ga j]
   rw[aNf j]at h;have z:Hid (∀x,lA x b f 317->Calls prog 224 #[.string (d.extract p d.size),.pointer (some ⟨b,0,none⟩)] x fun e I=>e=.returned (.tuple #[.string ((d.extract p d.size).extract 8 (8+xB (d.extract p d.size))),.bool true])/\Below x.heap.size x I):=
    fun x Q=>(h.out x Q).mono (by rintro e I ⟨⟨q,rfl,hq⟩,hb⟩;rw[hq j];exact⟨rfl,hb⟩)
   clear h j;obtain⟨O,hl2,P⟩:=hl;rw[A]at P;generalize xB (d.extract p d.size)=N at *;generalize (d.extract p d.size).extract 8 (8+N)=q at *;gi_wp2_with fail;refine⟨trivial,(callsIn_wide.2 (z.out _ hw.out.1)).mono ?_⟩;rintro e G ⟨rfl,g⟩;have r:Hid (lA G b f 317/\lA G D #[.string d] 9/\J a G):=⟨hw.out.1.later g,hw.out.2.1.later g,zU s hw.out.2.2 g⟩
   clear g;have E:a.length<(yH d (d.size+1) 0).length:=by
    rw[<-w.out,i.out];simp
   obtain⟨fn,X,H,T,F,hR⟩:=hY a (q,p+8+q.size) G r.out.2.2 E;simp only[gq]at F;have U:((p+8+q.size:Nat):Int)=(p:Int)+(8+(N:Int)):=by rw[O];omega
   rw[U]at F;gi_wp2;refine hR.mono ?_;rintro e L (⟨rfl,B,u⟩|⟨rfl,C⟩)
   ·have HK:Hid (lA L b f 317/\lA L D #[.string d] 9/\J (a++[(q,p+8+q.size)]) L):=⟨u b _ r.out.1 (Ea ⟨_,rfl⟩),u D _ r.out.2.1 (Ba rfl),B⟩
    clear B u;gi_wp2;go_roundw
    case rel=>
     refine⟨m,p+8+q.size,a++[(q,p+8+q.size)],by simp;omega,by simp;omega,by omega,by rw[U],?_,HK⟩;show _=_;rw[<-w.out,i.out];simp
    case measure=>simp[intOf];omega
   ·gi_wp2;refine bodyPost_ret (results_none rfl _ _ _) rfl ?_;exact⟨⟨_,rfl⟩,.inr ⟨_,trivial,C⟩⟩
  ·have i:Hid (yH d (m+1) p=[]):=by show _=_;rw[yH,Ca j]
   rw[ie j]at h;clear j;gi_wp2_with fail;refine⟨trivial,(callsIn_wide.2 (h.out _ hw.out.1)).mono ?_⟩;rintro e G ⟨⟨q,rfl,_⟩,g⟩;have K:Hid _:=zU s hw.out.2.2 g;clear g;gi_wp2;refine bodyPost_ret (results_none rfl _ _ _) rfl ?_;refine⟨⟨_,rfl⟩,.inl ⟨a,?_,K.out⟩⟩;rw[<-w.out,i.out];simp
theorem aAr (n:Nat) (d:ByteArray) (w:World):
 CallsIn Fence.wide n prog 180 #[.string d] w fun e a=>e=.returned (.func (.func 223) #[] #[.pointer (some ⟨w.heap.size,0,none⟩)])/\a=w.alloc (.cells #[.string d] 9):=by
 refine callsIn_of_wp func180 rfl trivial ?_ rfl;simp only[ntmps180,Yd,Sa,Kc,Nat.reduceAdd,Nat.reduceSub,Ig,Jg,List.push_toArray,Rg,Jb,Hd];gi_wp2;go_ret;exact⟨rfl,rfl⟩
theorem ZC (n D:Nat) (i:1<=n) (d:ByteArray) (h:d.size<=1000000000) (w:World) (c:lA w D #[.string d] 9):
 SeqStopsK Fence.wide n prog 223 #[.pointer (some ⟨D,0,none⟩)] gq (aF D) (fun j=>j=yH d (d.size+1) 0) (fun _=>True) (yH d (d.size+1) 0).length w:=fun l J a W f e _ g b=>
 qz n l D W.heap.size i d h J a e g W (c.later f) b
end
section
attribute [local go_sem] Oper.semAt_some
theorem aq {W:World} {n:Nat} {e:TypeId} {z k:Nat} {v:Value} {a:List Value} (h:W.ownsRow n e z v k a):W.drew.ownsRow n e z v k a:=h
theorem aNv {p:Prop} (h:p):Hid p:=h
def aFj (a:List (ByteArray×Nat)):Nat:=(a.getLast?.map (·.2)).getD 0
theorem aAg (a:List (ByteArray×Nat)) (x:ByteArray×Nat):aFj (a++[x])=x.2:=by simp[aFj]
def cj (a:List (ByteArray×Nat)):List ByteArray:=a.map (·.1)
theorem ya (d : ByteArray) : ∀ n p, cj (yH d n p) = (yK d n p).1
  | 0, _ => rfl
  | n + 1, p => by
    rw [yH, yK]
    split
    · simp only [cj, List.map_cons]
      congr 1
      exact ya d n _
    · rfl
theorem yb (d:ByteArray):∀n p,((yH d n p).getLast?.map (·.2)).getD p=(yK d n p).2
 |0,_=>rfl
 |n+1,p=>by
  rw[yH,yK];split
  ·rw[<-yb d n];simp only[List.getLast?_cons];cases h:(yH d n _).getLast?<;>simp
  ·rfl
theorem XD (d:ByteArray):∀n p,p<=d.size->9*(yH d n p).length<=d.size-p
 |0,_,_=>by simp[yH]
 |n+1,p,c=>by
  rw[yH];split
  ·rename_i b;obtain⟨e,f,a⟩:=IA b;rw[aX d p c]at a;have:=XD d n (p+8+((d.extract p d.size).extract 8 (8+xB (d.extract p d.size))).size) (by omega);simp only[Sa];omega
  ·simp
theorem aF.below {D:Nat} {A B:World} (h:Below A.heap.size A B):aF D A B:=fun b _ a _=>(h.block b (Bb.1 a).1).trans a
theorem aF.put {D:Nat} {w:World} (f:D<w.heap.size) (W:World) (l:Nat) (o d:Obj) (j:w.heap.size<=l) (h:W.heap[l]?=some o) (i:o.isCells=false) (_:o.isWalk=false):aF D W (W.putObj l d):=by
 intro b x c g;have a:b≠l:=by
  rcases g with rfl|⟨e,rfl⟩
  ·omega
  ·rintro rfl;rw[c]at h;cases h
   cases i
 exact((grownBy_putObj' W l d).block b (Bb.1 c).1 (by simpa using a)).trans c
theorem pV {W:World} {n m:Nat} {e:TypeId} {z k:Nat} {v:Value} {c:List Value} (h:W.ownsRow n e z v k c) (l:m<=n):W.ownsRow m e z v k c:=by
 refine⟨h.1,?_⟩;rcases h.2 with d|⟨g,a,b,f,i,j⟩
 ·exact Ba d
 ·exact Ea ⟨g,a,b,f,Ma l i,j⟩
theorem aF.grown {D n:Nat} {e:TypeId} {W d:World} {v:Value} {k:Nat} {r:List Value} (c:W.ownsRow n e 1 v k r) (q:W.grownBy d v.ownBlock) (t:D<n) (p:e≠317):aF D W d:=by
 intro b o a m;refine(q.block b (Bb.1 a).1 fun h=>?_).trans a;rcases c.2 with⟨rfl,_⟩|⟨g,i,j,rfl,s,l,_⟩
 ·simp[Value.ownBlock]at h
 ·obtain rfl:b=g:=by simpa[Value.ownBlock]using h
  rcases m with rfl|⟨f,rfl⟩
  ·omega
  ·rw[l]at a;simp at a;exact p a.2
theorem aF.setBox {D B:Nat} {t:TypeId} {W:World} {v:Value} (i:Boxed W B t v) (f:D≠B) (h:t≠317) (j:Value):aF D W (W.setCell ⟨B,0,none⟩ j):=by
 intro b o a g;refine(Below.heap_setCell _ _ _ b (fun d=>?_)).trans a;have e:b=B:=d;subst e;rcases g with rfl|⟨c,rfl⟩
 ·exact f rfl
 ·rw[show W.heap[b]?=_ from i]at a;simp at a;exact h a.2
theorem fc {W:World} {B C:Nat} {t:TypeId} {v:Value} (h:Boxed W B t v) (a:B≠C) (b:Value):Boxed (W.setCell ⟨C,0,none⟩ b) B t v:=(Below.heap_setCell _ _ _ B (fun e=>a e)).trans h
theorem qe {β:Type} (N B:Nat) (t:TypeId) (f:β->Value):OwnFrom N (fun s W=>Boxed W B t (f s)):=fun s A C row b d g=>b.kept d (fun e=>by
 obtain⟨_,o,a,c⟩:=g B e.symm;rw[show A.heap[B]?=_ from b]at a;cases a
 cases c)
theorem rf (F:Fence) (n:Nat) (a:Hid (F=Fence.wide)) (d:ByteArray) (w:World):
 CallsIn F n prog 180 #[.string d] w fun e b=>e=.returned (.func (.func 223) #[] #[.pointer (some ⟨w.heap.size,0,none⟩)])/\b=w.alloc (.cells #[.string d] 9):=by
 have e:=a.out;subst e;exact aAr n d w
theorem SL (F:Fence) (n:Nat) (a:Hid (F=Fence.wide)) (D:Nat) (f:1<=n) (d:ByteArray) (c:d.size<=1000000000) (w:World) (b:lA w D #[.string d] 9):
 SeqStopsK F n prog 223 #[.pointer (some ⟨D,0,none⟩)] gq (aF D) (fun g=>g=yH d (d.size+1) 0) (fun _=>True) (yH d (d.size+1) 0).length w:=by
 have e:=a.out;subst e;exact ZC n D f d c w b
theorem jc (F : Fence) (n : Nat) (HF : Hid (F = Fence.wide)) (h11 : F.fn 143) (h22 : F.fn 180) (h25 : F.fn 223) (hro : F.round = none) (hn : 3 ≤ n) (d : ByteArray) (w : World) (hs : d.size ≤ 1000000000) :
    CallsIn F n prog 143 #[.string d] w fun e w' => ∃ a cap, e = .returned (.tuple #[.slice a (pG d).1.length cap, .int .i64 ((pG d).2 : Nat)]) ∧ yU w' w.heap.size a (pG d).1 ∧ Below w.heap.size w w' := by
  obtain⟨i0, hi, hz0, hz1, hz2⟩ := DC
  have HI : Hid _ := hi
  clear hi
  have hlen := XD d (d.size + 1) 0 (Nat.zero_le _)
  have h1 : 1 ≤ n := by omega
  refine callsIn_of_wp_marks func143 rfl h11 ?_ hro
  simp only [ntmps143, List.size_toArray, List.length_cons, List.length_nil, Nat.reduceAdd, Nat.reduceSub, Array.replicate_succ, Array.replicate_zero, List.push_toArray, List.append_toArray, List.nil_append, List.cons_append]
  gi_wp2_with (gi_at_call 180; refine(rf F (n - 1) HF d _).mono ?_; rintro e w' ⟨rfl, rfl⟩)
  have bO : Boxed (((w.alloc (.cells #[.slice none 0 0] 61)).alloc (.cells #[.int .i64 0] 3)).alloc (.cells #[.string d] 9)) w.heap.size 61 (.slice none 0 0) := ((Boxed.new w _ _).alloc _).alloc _
  have bS : Boxed (((w.alloc (.cells #[.slice none 0 0] 61)).alloc (.cells #[.int .i64 0] 3)).alloc (.cells #[.string d] 9)) (w.heap.size + 1) 3 (.int .i64 0) := by
    have h := (Boxed.new (w.alloc (.cells #[.slice none 0 0] 61)) 3 (.int .i64 0)).alloc (.cells #[.string d] 9)
    rwa [World.size_alloc] at h
  have bD : lA (((w.alloc (.cells #[.slice none 0 0] 61)).alloc (.cells #[.int .i64 0] 3)).alloc (.cells #[.string d] 9)) (w.heap.size + 1 + 1) #[.string d] 9 := by
    have h := Boxed.new ((w.alloc (.cells #[.slice none 0 0] 61)).alloc (.cells #[.int .i64 0] 3)) 9 (.string d)
    rwa [World.size_alloc, World.size_alloc] at h
  have hB0 : Below w.heap.size w (((w.alloc (.cells #[.slice none 0 0] 61)).alloc (.cells #[.int .i64 0] 3)).alloc (.cells #[.string d] 9)) := (((Below.refl _ w).alloc (Nat.le_refl _) _).alloc (by simp) _).alloc (by simp; omega) _
  have hsz : (((w.alloc (.cells #[.slice none 0 0] 61)).alloc (.cells #[.int .i64 0] 3)).alloc (.cells #[.string d] 9)).heap.size = w.heap.size + 3 := by simp
  generalize (((w.alloc (.cells #[.slice none 0 0] 61)).alloc (.cells #[.int .i64 0] 3)).alloc (.cells #[.string d] 9)) = W0 at *
  refine wpIn_rangeFunc_ownF hro h1 (gf := 223) (lb := #[.pointer (some ⟨w.heap.size + 1 + 1, 0, none⟩)]) rfl h25 (enters_of func223 (by kernel_rfl) rfl)
    (SL F (n - 1) HF (w.heap.size + 1 + 1) (by omega) d hs W0 bD) aF.trans (aF.put (by omega)) (Below.refl _ _) (fun _ => rfl)
    (fun pre W => (∃ v, Boxed W w.heap.size 61 v ∧ W.ownsRow (w.heap.size + 3) 9 1 v pre.length ((cj pre).map Value.string) ∧ True) ∧ Boxed W (w.heap.size + 1) 3 (.int .i64 (aFj pre : Nat)) ∧ Below w.heap.size w W ∧ w.heap.size + 3 ≤ W.heap.size)
    (fun _ _ _ => False)
    (OwnFrom.and (Own.from (holdsRow_own (w.heap.size + 3) w.heap.size 61 9 1 (fun pre => pre.length) (fun pre => (cj pre).map Value.string) (fun _ _ => True)) _) (OwnFrom.and (qe _ _ _ _) (OwnFrom.and (ownFrom_below (Nat.le_refl _) (by omega)) (fun _ _ _ _ hs hg _ => Nat.le_trans hs hg.size))))
    (fun _ _ _ _ _ hs _ _ => hs)
    ⟨⟨_, bO, World.ownsRow_nil _ _ _ _, trivial⟩, bS, hB0, Nat.le_of_eq hsz.symm⟩
    (fun x => { tmps := #[.string d, undef, .slice none 0 0, .int .i64 0, .pointer (some ⟨w.heap.size, 0, none⟩), .pointer (some ⟨w.heap.size + 1, 0, none⟩), .string x.1, .int .i64 (x.2 : Nat), .string d, .func (.func 223) #[] #[.pointer (some ⟨w.heap.size + 1 + 1, 0, none⟩)], .string x.1, .int .i64 (x.2 : Nat), undef, undef, undef, undef, undef, undef, undef], defers := [] }) ?assign ?body ?done ?stop
  case assign =>
    intro l x W K hK
    simp only [gq]
    gi_wp2
    exact hK
  case body =>
    rintro l pre x W ⟨⟨v, hv, hrow, _⟩, hv2, hB, hWs⟩ hlt
    have hc := hv.cell
    have hM : pre.length < 1000000000 := by omega
    clear hlt hlen bO bS bD hB0 hsz HF h25 h22 h11
    have HV2 : Hid (Boxed W (w.heap.size + 1) 3 (.int .i64 (aFj pre : Nat))) := hv2
    clear hv2
    gi_wp2_with (gi_at_builtin; refine wpListIn_append_own _ rfl _ _ 61 rfl (w.heap.size + 3) 9 i0 (.string ByteArray.empty) 1 16 underlying61 HI.out hz0 hz1 hz2 rfl (by decide) _ _ _ rfl (hrow.alloc _) ⟨W.heap.size, 0, none⟩ 1 1 [.string x.1] rfl rfl (cell_one_new _ _ _) (by simp [Value.oneCell']) (by unfold maxLen; omega) (by omega) (by simp; omega) ?_; intro v' w1 hown' hgrow _; obtain⟨g', cap', rfl⟩ := ownsRow_succ hown'; refine Hid.out ?_)
    have HAP := hv.appended (by decide) (pV hrow (Nat.le_add_right w.heap.size 3)) hB.size (Nat.le_refl _) (pV hown' (Nat.le_add_right w.heap.size 3)) hgrow
    have hW1 := (HV2.out.alloc _).kept hgrow (HV2.out.not_row (by decide) hrow)
    obtain⟨hp1, hp2, hp3, hp4, hp5⟩ := HAP
    have hq2 := fc hW1 (by omega : w.heap.size + 1 ≠ w.heap.size) (.slice (some ⟨g', 0, none⟩) (pre.length + 1) cap')
    have hc1 := hp1.cell
    have hf1 := hp1.frozen
    have hc2 := hq2.cell
    have hf2 := hq2.frozen
    have HALL : Hid (KeepsOthers W (w1.setCell ⟨w.heap.size, 0, none⟩ (.slice (some ⟨g', 0, none⟩) (pre.length + 1) cap')) ∧ Below w.heap.size W (w1.setCell ⟨w.heap.size, 0, none⟩ (.slice (some ⟨g', 0, none⟩) (pre.length + 1) cap'))) := ⟨hp4, hp5⟩
    clear hp4 hp5
    refine aNv ?_
    gi_wp2
    have hr1 := hown'.kept (grownBy_setCell' w1 w.heap.size (.slice (some ⟨g', 0, none⟩) (pre.length + 1) cap')) (.inr (hp1.not_row (by decide) hown').symm)
    have hr2 := hr1.kept (grownBy_setCell' _ (w.heap.size + 1) (.int .i64 (x.2 : Nat))) (.inr (Boxed.not_row hq2 (by decide) hr1).symm)
    have hk1 : aF (w.heap.size + 1 + 1) W (W.alloc (.cells #[.string x.1] 9)) := aF.below (cA W _)
    have hk2 := hk1.trans (aF.grown (hrow.alloc _) hgrow (by omega) (by decide))
    have hk3 := hk2.trans (aF.setBox hp1 (by omega) (by decide) (.slice (some ⟨g', 0, none⟩) (pre.length + 1) cap'))
    have hk4 := hk3.trans (aF.setBox hq2 (by omega) (by decide) (.int .i64 (x.2 : Nat)))
    have hb2 := HALL.out.2.setCell (p := ⟨w.heap.size + 1, 0, none⟩) (Nat.le_succ _) (.int .i64 (x.2 : Nat))
    refine⟨HALL.out.1.trans (KeepsOthers.setCell _ _ _), hk4, ⟨_, fc hp2 (by omega) _, ?_, trivial⟩, ?_, hB.trans hb2, ?_⟩
    · have e1 : (cj (pre ++ [x])).map Value.string = (cj pre).map Value.string ++ [Value.string x.1] := by simp [cj]
      have e2 : (pre ++ [x]).length = pre.length + 1 := by simp
      rw [e1, e2]
      exact hr2
    · rw [aAg]
      exact Boxed.set _ hq2
    · exact Nat.le_trans hWs hb2.size
  case done =>
    rintro D ys W hD rfl ⟨⟨v, hv, hrow, _⟩, hv2, hB, _⟩ hK
    have e1 : cj (yH d (d.size + 1) 0) = (pG d).1 := ya d _ 0
    have e2 : aFj (yH d (d.size + 1) 0) = (pG d).2 := yb d _ 0
    have e3 : (yH d (d.size + 1) 0).length = (pG d).1.length := by rw [← e1]; simp [cj]
    rw [e1, e3] at hrow
    rw [e2] at hv2
    clear hlen e1 e2 e3 bO bS bD hB0 HF h25 h22 h11
    obtain⟨L, HL⟩ : ∃ L, Hid ((pG d).1 = L) := ⟨_, rfl⟩
    obtain⟨z, HZ⟩ : ∃ z, Hid ((pG d).2 = z) := ⟨_, rfl⟩
    rw [HL.out] at hrow
    rw [HZ.out] at hv2
    obtain⟨a, cap, rfl⟩ : ∃ a cap, v = .slice a L.length cap := by
      rcases hrow.2 with⟨rfl, h0⟩ | ⟨g, cap, cur, rfl, _⟩
      · exact⟨none, 0, by rw [h0]⟩
      · exact⟨_, _, rfl⟩
    have HO : Hid (W.ownsRow w.heap.size 9 1 (.slice a L.length cap) L.length (L.map Value.string)) := pV hrow (Nat.le_add_right _ _)
    have hc := hv.cell
    have hc2 := hv2.cell
    clear hrow hv hv2
    gi_wp2
    gi_region
    all_goals gi_wp2
    all_goals refine⟨by simp, .inl ⟨_, _, rfl, run_takeDeferred (show W.drew.heap[D]? = _ from hK), ?_⟩⟩
    all_goals refine⟨.tuple #[.slice a L.length cap, .int .i64 (z : Nat)], by simp [results, results143, go_sem], a, cap, by rw [HL.out, HZ.out], ?_, ?_⟩
    all_goals first
      | rw [HL.out]; exact qS (ownsRow_putObj (aq HO.out) _ (show W.drew.heap[D]? = _ from hK) rfl)
      | exact(hB.drew).trans (belowK_b (w := w) (Nat.le_refl _) W.drew D _ _ (by omega) (show W.drew.heap[D]? = _ from hK) rfl rfl)
  case stop =>
    rintro D c pre W _ _ h _
    exact h.elim
theorem ZK (d:ByteArray) (w:World) (f:d.size<=1000000000):
 Calls prog 143 #[.string d] w fun e c=>∃a b,e=.returned (.tuple #[.slice a (pG d).1.length b,.int .i64 ((pG d).2:Nat)])/\yU c w.heap.size a (pG d).1/\Below w.heap.size w c:=
 (callsIn_wide (n:=5)).1 (jc Fence.wide 5 rfl trivial trivial trivial rfl (by omega) d w f)
end
def eW (a:List dA) (n:Int):ByteArray:=(a[mA (vD n) a]?.map (·.data)).getD ByteArray.empty
theorem CJ {a:List dA} {i:Nat} {n:Int} (b:dN a) (c:i<a.length) (d:a[i].name=vD n):eW a n=a[i].data:=by
 have e:mA (vD n) a=i:=by rw[<-d];exact(kG _ b).uniq (QU b c)
 unfold eW;rw[e,Ka c];rfl
def uF (c:List dA) (a:Int):Nat->Int->List ByteArray->Nat->Option (List ByteArray×Nat)
 |0,_,b,d=>some (b,d)
 |r+1,n,b,_=>if (pG (eW c n)).2<(eW c n).size/\n<a then none else uF c a r (n+1) (b++(pG (eW c n)).1) (pG (eW c n)).2
theorem XE (d:ByteArray):∀n p,(yK d n p).1.length<=n
 |0,p=>by simp[yK]
 |n+1,p=>by
  rw[yK];split
  ·have:=XE d n (p+8+((d.extract p d.size).extract 8 (8+xB (d.extract p d.size))).size);exact Nat.succ_le_succ this
  ·simp
theorem IX (d:ByteArray):(pG d).1.length<=d.size+1:=XE d _ _
def ee (P D:Nat) (first c:Int) (w:World) (R:Option (List ByteArray×Nat)) (e:Ending) (d:World):Prop:=
 eD P w d/\match R with
 |none=>e=.returned (.tuple #[.slice none 0 0,aZ 20])/\∃f:Nat,lA d P #[.pointer (some ⟨D,0,none⟩),.int .i64 first,.int .i64 c,.int .i64 (f:Nat)] 76
 |some (a,f)=>(∃g b,e=.returned (.tuple #[.slice g a.length b,.nilIface])/\d.ownsRow w.heap.size 9 1 (.slice g a.length b) a.length (a.map Value.string))/\lA d P #[.pointer (some ⟨D,0,none⟩),.int .i64 first,.int .i64 c,.int .i64 (f:Nat)] 76
def jD (n z:Int):uR:=⟨4,vD n,⟨#[]⟩,⟨#[]⟩,z⟩
def rJ (a:List dA) (n:Int):dA:=(a[mA (vD n) a]?).getD ⟨ByteArray.empty,ByteArray.empty,0⟩
theorem xq {a:List dA} {i:Nat} {n:Int} (b:dN a) (c:i<a.length) (d:a[i].name=vD n):mA (vD n) a=i:=by
 rw[<-d];exact(kG _ b).uniq (QU b c)
theorem oY {a:List dA} {i:Nat} {n:Int} (c:dN a) (b:i<a.length) (d:a[i].name=vD n):rJ a n=a[i]:=by
 unfold rJ;rw[xq c b d,Ka b];rfl
def zO (K:kB) (n:Int):kB×Nat:=if (rJ K.fs n).y9<((rJ K.fs n).data.size:Int) then wD K (eR n) else(K,0)
def cJ (K:kB) (n z:Int):kB×Nat:=
 if z<((rJ K.fs n).data.size:Int) then
  (if (wD K (jD n z)).2≠0 then wD K (jD n z) else zO (wD K (jD n z)).1 n)
 else zO K n
def iD:zH:=⟨0,0,0⟩
def oP (K:kB) (x y:Int) (n:Nat):kB×zH×List ByteArray×Nat:=
 if (n:Int)<=y-x then(K,iD,[],21)
 else match uF K.fs y ((y-x).toNat+1) x [] 0 with
  |none=>(K,iD,[],20)
  |some (b,a)=>if (cJ K y a).2≠0 then((cJ K y a).1,iD,[],(cJ K y a).2) else((cJ K y a).1,⟨x,y,a⟩,b,0)
def cD (K:kB):kB×zH×List ByteArray×Nat:=
 if vC K.fs K.c K.k K.cr K.fl=false then(⟨[],0,0,0,0,false⟩,iD,[],6)
 else if K.dn=true then(K,iD,[],1)
 else match gF K.fs with
  |[]=>if (wD K (nI 1)).2≠0 then((wD K (nI 1)).1,iD,[],(wD K (nI 1)).2) else((wD K (nI 1)).1,⟨1,1,0⟩,[],0)
  |x::l=>oP K x ((x::l).getLast (by simp)) (l.length+1)
def QS (K:kB):List Int->kB×zH×List ByteArray×Nat
 |[]=>if (wD K (nI 1)).2≠0 then((wD K (nI 1)).1,iD,[],(wD K (nI 1)).2) else((wD K (nI 1)).1,⟨1,1,0⟩,[],0)
 |x::l=>oP K x ((x::l).getLast (by simp)) (l.length+1)
theorem QR {K:kB} (b:vC K.fs K.c K.k K.cr K.fl=true) (a:K.dn=false):cD K=QS K (gF K.fs):=by
 unfold cD;rw[Ca (by rw[b];decide),Ca (by rw[a];decide)];cases gF K.fs<;>rfl
theorem WH {K:kB} {x y:Int} {n:Nat} (h:(n:Int)<=y-x):oP K x y n=(K,iD,[],21):=by unfold oP;rw[Ga h]
theorem ud {K:kB} {x y:Int} {n:Nat} (h:¬(n:Int)<=y-x) (a:uF K.fs y ((y-x).toNat+1) x [] 0=none):oP K x y n=(K,iD,[],20):=by unfold oP;rw[Ca h,a]
theorem uc {K b:kB} {x y:Int} {n c d:Nat} {a:List ByteArray} (h:¬(n:Int)<=y-x) (f:uF K.fs y ((y-x).toNat+1) x [] 0=some (a,c)) (e:cJ K y c=(b,d)):oP K x y n=if d≠0 then(b,iD,[],d) else(b,⟨x,y,c⟩,a,0):=by unfold oP;rw[Ca h,f];simp only[e]
theorem SE {K:kB} {i:Nat} {n z:Int} (m:vC K.fs K.c K.k K.cr K.fl=true) (j:dr (jD n z)=true) (g:dN K.fs) (a:i<K.fs.length) (f:K.fs[i].name=vD n):
 ∃h:i<(wD K (jD n z)).1.fs.length,(wD K (jD n z)).1.fs[i].name=vD n/\(wD K (jD n z)).1.fs.length=K.fs.length:=by
 have l:mA (jD n z).name K.fs=i:=xq g a f;have e:(wD K (jD n z)).1.fs=(lG K.fs K.c K.k K.cr K.fl K.dn (jD n z)).2.1:=by rw[FJ m j]
 have b:(wD K (jD n z)).1.fs=K.fs\/∃d s,(wD K (jD n z)).1.fs=K.fs.set i ⟨K.fs[i].name,d,s⟩:=by
  rw[e];unfold lG;split
  ·show(dM K.fs K.c (jD n z)).2=_\/_;unfold dM;simp only[l,Ka a];rw[Ca (show ¬(jD n z).kind=1 from(by decide:¬((4:Int)=1)))];split
   ·exact Ba rfl
   ·rw[Ca (show ¬(jD n z).kind=2 from(by decide:¬((4:Int)=2))),Ca (show ¬(jD n z).kind=3 from(by decide:¬((4:Int)=3))),Ga (show(jD n z).kind=4 from rfl)];split
    ·exact Ea ⟨_,_,rfl⟩
    ·exact Ba rfl
  ·exact Ba rfl
 rcases b with h|⟨d,s,h⟩
 ·simp only[h];exact⟨a,f,trivial⟩
 ·simp only[h];refine⟨by rw[Xc];exact a,?_,Xc⟩;rw[Bf];exact f
theorem zV (K:kB) (a:uR):(wD K a).2<=6:=by
 unfold wD yP;split
 ·exact RH _ _ _ _ _ _ _
 ·exact Da _
theorem tr (K:kB) (n z:Int):(cJ K n z).2<=6:=by
 have a:∀K,(zO K n).2<=6:=fun K=>by
  unfold zO;split
  ·exact zV _ _
  ·exact Ha _
 unfold cJ;split
 ·split
  ·exact zV _ _
  ·exact a _
 ·exact a _
theorem QQ (K:kB):((cD K).2.2.2<=6\/(cD K).2.2.2=20\/(cD K).2.2.2=21)/\((cD K).2.2.2≠0->(cD K).2.1=iD/\(cD K).2.2.1=[]):=by
 unfold cD;split
 ·exact⟨Ba (Da _),fun _=>⟨rfl,rfl⟩⟩
 ·split
  ·exact⟨Ba (show 1<=6 by decide),fun _=>⟨rfl,rfl⟩⟩
  ·split
   ·split
    ·exact⟨Ba (zV _ _),fun _=>⟨rfl,rfl⟩⟩
    ·exact⟨Ba (Ha _),fun h=>absurd rfl h⟩
   ·unfold oP;split
    ·exact⟨Ea (Ea rfl),fun _=>⟨rfl,rfl⟩⟩
    ·split
     ·exact⟨Ea (Ba rfl),fun _=>⟨rfl,rfl⟩⟩
     ·split
      ·exact⟨Ba (tr _ _ _),fun _=>⟨rfl,rfl⟩⟩
      ·exact⟨Ba (Ha _),fun h=>absurd rfl h⟩
theorem gU {fs:List dA} {n:Int} (h:n∈gF fs):1<=n/\n<=999999/\∃i,∃b:i<fs.length,fs[i].name=vD n:=by
 unfold gF at h;obtain⟨f,a,rfl⟩:=Uc.1 h;simp only[Ed,Ya]at a;obtain⟨d,g⟩:=a;obtain⟨e,c⟩:=lQ g;obtain⟨i,b,rfl⟩:=Gb d;refine⟨by omega,by omega,i,b,?_⟩;rw[EY _ (by omega) (by omega)];simpa using e
theorem MT {a:List dA} {x:Int} {l:List Int} (g:dN a) (d:gF a=x::l) (o:¬((x::l).length:Int)<=(x::l).getLast (by simp)-x):
 ∃cnt:Nat,(x::l).getLast (by simp)=x+cnt/\cnt+1=(x::l).length/\1<=x/\x+cnt<=999999/\∀j:Nat,j<=cnt->∃i,∃h:i<a.length,a[i].name=vD (x+j):=by
 have m:Up (x::l):=by rw[<-d];exact yt g
 have b:=(vl m).2 (by omega);have c:(x::l).getLast (by simp)=(x::l)[(x::l).length-1]:=Xf _;have f:=b ((x::l).length-1) (by simp);refine⟨(x::l).length-1,by rw[c,f],by simp,?_,?_,?_⟩
 ·exact(gU (fs:=a) (n:=x) (by rw[d];simp)).1
 ·have:=(gU (fs:=a) (n:=(x::l)[(x::l).length-1]) (by rw[d];exact Db _)).2.1;rw[f]at this;exact this
 ·intro j k;have e:j<(x::l).length:=by simp at k |-;omega
  have:=(gU (fs:=a) (n:=(x::l)[j]) (by rw[d];exact Db _)).2.2;rw[b j e]at this;exact this
theorem JH {w:World} {a:Option Addr} {d:List dA} {P:Nat} {cs:Array Value} {t:TypeId} (h:iA w a d) (l:lA w P cs t) (k:∀(j:Nat) (s:ByteArray),cs[j]?≠some (Value.string s)):UC a d P:=by
 rcases h with h|⟨b,o,e,_,h⟩
 ·exact Ba h
 ·by_cases c:d=[]
  ·exact Ba c
  ·refine Ea ⟨b,o,e,fun g=>?_⟩;subst g;have i:0<d.length:=Sg.2 c;have f:=(h 0 i).1;rw[l.cell]at f;exact k _ _ f
theorem vZ {w:World} {a:Option Addr} {c:List dA} {P:Nat} {x:Option Addr} {n d:Nat} {f g i k:Int} {l m o p:IntKind} {b:Bool} {t:TypeId} (h:iA w a c) (e:lA w P #[.slice x n d,.int l f,.int m g,.int o i,.int p k,.bool b] t):UC a c P:=
 JH h e fun j _=>by
  match j with
  |0=>simp
  |1=>simp
  |2=>simp
  |3=>simp
  |4=>simp
  |5=>simp
  |n+6=>simp
theorem ze {w:World} {a:Option Addr} {b:List dA} {P:Nat} {d e f:Int} {g i k:IntKind} {t:TypeId} (h:iA w a b) (c:lA w P #[.int g d,.int i e,.int k f] t):UC a b P:=
 JH h c fun j _=>by
  match j with
  |0=>simp
  |1=>simp
  |2=>simp
  |n+3=>simp
theorem aAq {w a:World} {x y z u:Array Value} {tx ty tz tu:TypeId} (b:Below ((((w.alloc (.cells x tx)).alloc (.cells y ty)).alloc (.cells z tz)).alloc (.cells u tu)).heap.size ((((w.alloc (.cells x tx)).alloc (.cells y ty)).alloc (.cells z tz)).alloc (.cells u tu)) a):
 lA a w.heap.size x tx/\lA a (w.heap.size+1) y ty/\lA a (w.heap.size+1+1) z tz/\lA a (w.heap.size+1+1+1) u tu/\Below w.heap.size w a:=by
 refine⟨?_,?_,?_,?_,pA (pA (pA (pA (cA _ _) (cA _ _)) (cA _ _)) (cA _ _)) b⟩
 ·exact((((rP w x tx).later (cA _ _)).later (cA _ _)).later (cA _ _)).later b
 ·have h:=(((rP (w.alloc (.cells x tx)) y ty).later (cA _ (.cells z tz))).later (cA _ (.cells u tu))).later b;simpa using h
 ·have h:=((rP ((w.alloc (.cells x tx)).alloc (.cells y ty)) z tz).later (cA _ (.cells u tu))).later b;simpa using h
 ·have h:=(rP (((w.alloc (.cells x tx)).alloc (.cells y ty)).alloc (.cells z tz)) u tu).later b;simpa using h
def GK (D:kB) (g:uR) (b:kB) (f:Nat):Prop:=
 ∀a h W,iA W a D.fs->Calls prog 19 #[.agg #[.slice a D.fs.length h,.int .i64 D.c,.int .i64 D.k,.int .i64 D.cr,.int .i64 D.fl,.bool D.dn],.agg #[.int .i64 g.kind,.string g.name,.string g.tq,.string g.data,.int .i64 g.size]] W fun e j=>
  ∃i d,e=.returned (.tuple #[.agg #[.slice i b.fs.length d,.int .i64 b.c,.int .i64 b.k,.int .i64 b.cr,.int .i64 b.fl,.bool b.dn],.int .i64 f])/\iA j i b.fs/\Below W.heap.size W j
theorem aIp {D:kB} {op:uR} (h:GB D.fs) (f:op.name.size<=maxLen) (g:op.tq.size<=maxLen) (d:op.data.size<=1048576):GK D op (wD D op).1 (wD D op).2:=fun a b W e=>
 bs W a b D.fs D.c D.k D.cr D.fl D.dn op ⟨e,h.r9,h.len,h.sum,f,g,Ma d (by decide)⟩
section
variable {w W W':World} {P Q:Nat} {a a':Option Addr} {cap cap':Nat} {fs fs':List dA} {c k cr fl c' k' cr' fl':Int} {dn dn':Bool} {lf ll ls:Int}
theorem qx {S:Nat->Prop} (h:iA W a fs) (f:gA S W W') (m:∀b o,a=some ⟨b,o,none⟩->S b->fs=[]):iA W' a fs:=by
 rcases h with h|⟨b,o,rfl,d,h⟩
 ·exact Ba h
 ·by_cases e:S b
  ·exact Ba (m b o rfl e)
  ·have l:∀j,W'.cell? ⟨b,j,none⟩=W.cell? ⟨b,j,none⟩:=fun j=>World.cell?_of_block (f.block b d e);exact Ea ⟨b,o,rfl,by have:=f.size;omega,fun i g=>by simp only[l];exact h i g⟩
theorem er (h:UC a fs P) {b o:Nat} (e:a=some ⟨b,o,none⟩) (i:b=P):fs=[]:=by
 rcases h with h|⟨d,l,f,j⟩
 ·exact h
 ·obtain⟨g,-⟩:b=d/\o=l:=by simpa using e.symm.trans f
  exact absurd (g.symm.trans i) j
def PX (b:World) (P:Nat) (fs:List dA) (c k cr fl:Int) (dn:Bool) (d:World):Prop:=∃a cap,b.heap.size<=P/\lA d P #[.slice a fs.length cap,.int .i64 c,.int .i64 k,.int .i64 cr,.int .i64 fl,.bool dn] 30/\iA d a fs/\Below b.heap.size b d
theorem aMg {B P:Nat} {d e f g i j:Value} (h:Below B w W) (b:B<=P):Below B w ((((((W.setCell ⟨P,0,none⟩ d).setCell ⟨P,1,none⟩ e).setCell ⟨P,2,none⟩ f).setCell ⟨P,3,none⟩ g).setCell ⟨P,4,none⟩ i).setCell ⟨P,5,none⟩ j):=(((((h.setCell b _).setCell b _).setCell b _).setCell b _).setCell b _).setCell b _
theorem aHr {b:World} (e:iA W a fs) (d:Below b.heap.size b W):PX b W.heap.size fs c k cr fl dn (W.alloc (.cells #[.slice a fs.length cap,.int .i64 c,.int .i64 k,.int .i64 cr,.int .i64 fl,.bool dn] 30)):=⟨a,cap,d.size,rP _ _ _,e.later (cA _ _),pA d (cA _ _)⟩
theorem aHs {b:World} (f:iA W a fs) (d:Below b.heap.size b W) (h:b.heap.size<=P) (g:lA W P #[.slice none 0 0,.int .i64 0,.int .i64 0,.int .i64 0,.int .i64 0,.bool false] 30):PX b P fs c k cr fl dn ((((((W.setCell ⟨P,0,none⟩ (.slice a fs.length cap)).setCell ⟨P,1,none⟩ (.int .i64 c)).setCell ⟨P,2,none⟩ (.int .i64 k)).setCell ⟨P,3,none⟩ (.int .i64 cr)).setCell ⟨P,4,none⟩ (.int .i64 fl)).setCell ⟨P,5,none⟩ (.bool dn)):=
 ⟨a,cap,h,NI g,f.apart (qc f g) (iM _ _ _ _ _ _),d.trans ((gA.but (iM _ _ _ _ _ _)).below d.size fun i j e=>by omega)⟩
theorem cf {D:kB} {op:uR} (h:GB D.fs) (b:op.name.size<=maxLen) (d:op.tq.size<=maxLen) (e:op.data.size<=1048576):∃fs c k cr fl dn x,wD D op=(⟨fs,c,k,cr,fl,dn⟩,x)/\GB fs/\GK D op ⟨fs,c,k,cr,fl,dn⟩ x:=
 ⟨_,_,_,_,_,_,_,rfl,dX h b d,aIp h b d e⟩
end
def SK (K:kB) (x y:Int) (c:Nat) (b:List ByteArray):kB×zH×List ByteArray×Nat:=
 if (zO K y).2≠0 then((zO K y).1,iD,[],(zO K y).2) else((zO K y).1,⟨x,y,c⟩,b,0)
def goR (K:kB) (x y:Int):Option (List ByteArray×Nat)->kB×zH×List ByteArray×Nat
 |none=>(K,iD,[],20)
 |some (c,b)=>
  if (b:Int)<((rJ K.fs y).data.size:Int) then
   (if (wD K (jD y b)).2≠0 then((wD K (jD y b)).1,iD,[],(wD K (jD y b)).2) else SK (wD K (jD y b)).1 x y b c)
  else SK K x y b c
theorem aHg {K:kB} {x y:Int} {n:Nat} (h:¬(n:Int)<=y-x):oP K x y n=goR K x y (uF K.fs y ((y-x).toNat+1) x [] 0):=by
 unfold oP;rw[Ca h];cases uF K.fs y ((y-x).toNat+1) x [] 0 with
 |none=>rfl
 |some q=>
  obtain⟨c,b⟩:=q;show(if (cJ K y b).2≠0 then((cJ K y b).1,iD,[],(cJ K y b).2) else((cJ K y b).1,(⟨x,y,b⟩:zH),c,0))=_;have f:goR K x y (some (c,b))=if (b:Int)<((rJ K.fs y).data.size:Int) then
   (if (wD K (jD y b)).2≠0 then((wD K (jD y b)).1,iD,[],(wD K (jD y b)).2) else SK (wD K (jD y b)).1 x y b c)
   else SK K x y b c:=rfl
  rw[f];unfold cJ SK;by_cases e:(b:Int)<((rJ K.fs y).data.size:Int)
  ·rw[Ga e,Ga e];by_cases d:(wD K (jD y b)).2≠0
   ·rw[Ga d,Ga d,Ga d]
   ·rw[Ca d,Ca d]
  ·rw[Ca e,Ca e]
theorem aLu {K:kB} {i:Nat} {n:Int} (h:vC K.fs K.c K.k K.cr K.fl=true) (f:K.dn=false) (d:dN K.fs) (b:i<K.fs.length) (e:K.fs[i].name=vD n):fI K.fs (vC K.fs K.c K.k K.cr K.fl) K.dn (vD n)=(K.fs[i].data,true):=by
 have g:oO K.fs (vD n) i:=by rw[<-e];exact QU d b
 have hh:eF K.fs (vD n) i=true:=by
  unfold eF;rw[Ka b];simp only[e];simp
 unfold fI;rw[Ga ⟨h,f⟩,uT d g,Ga hh,Ga (Int.natCast_nonneg i),Mc,Ka b]
theorem aKi {K:kB} {i:Nat} {n:Int} (b:dN K.fs) (c:i<K.fs.length) (d:K.fs[i].name=vD n):zD (vD n) K.fs 0=(i:Int):=by
 have e:oO K.fs (vD n) i:=by rw[<-d];exact QU b c
 have hh:eF K.fs (vD n) i=true:=by
  unfold eF;rw[Ka c];simp only[d];simp
 rw[uT b e,Ga hh]
structure SO (n:Nat) (w wx:World) (K:kB) (a:Option Addr) (cap:Nat):Prop where
 dk:lA wx n #[.slice a K.fs.length cap,.int .i64 K.c,.int .i64 K.k,.int .i64 K.cr,.int .i64 K.fl,.bool K.dn] 30
 rd:lA wx (n+1) #[.slice none 0 0,.int .i64 0,.int .i64 0,.int .i64 0,.int .i64 0,.bool false] 30
 rl:lA wx (n+1+1) #[.int .i64 0,.int .i64 0,.int .i64 0] 32
 fi:iA wx a K.fs
 be:Below n w wx
section
variable {n:Nat} {w W W':World} {K K':kB} {a a':Option Addr} {cap cap':Nat}
theorem SO.later (h:SO n w W K a cap) (b:Below W.heap.size W W'):SO n w W' K a cap:=⟨h.dk.later b,h.rd.later b,h.rl.later b,h.fi.later b,h.be.trans (b.mono (Ke (aA h.dk)))⟩
theorem SO.take (h:SO n w W K a cap) (b:iA W a' K'.fs):SO n w ((((((W.setCell ⟨n,0,none⟩ (.slice a' K'.fs.length cap')).setCell ⟨n,1,none⟩ (.int .i64 K'.c)).setCell ⟨n,2,none⟩ (.int .i64 K'.k)).setCell ⟨n,3,none⟩ (.int .i64 K'.cr)).setCell ⟨n,4,none⟩ (.int .i64 K'.fl)).setCell ⟨n,5,none⟩ (.bool K'.dn)) K' a' cap':=
 ⟨NI h.dk,h.rd.but (iM _ _ _ _ _ _) (by omega),h.rl.but (iM _ _ _ _ _ _) (by omega),b.apart (vZ b h.dk) (iM _ _ _ _ _ _),h.be.trans ((gA.but (iM _ _ _ _ _ _)).below (Ke (aA h.dk)) fun i d e=>by omega)⟩
theorem SO.cells (h:SO n w W K a cap):(W.cell? ⟨n,0,none⟩=some (.slice a K.fs.length cap)/\W.cell? ⟨n,1,none⟩=some (.int .i64 K.c)/\W.cell? ⟨n,2,none⟩=some (.int .i64 K.k)/\W.cell? ⟨n,3,none⟩=some (.int .i64 K.cr)/\W.cell? ⟨n,4,none⟩=some (.int .i64 K.fl)/\W.cell? ⟨n,5,none⟩=some (.bool K.dn))/\(W.cell? ⟨n+1,0,none⟩=some (.slice none 0 0)/\W.cell? ⟨n+1,1,none⟩=some (.int .i64 0)/\W.cell? ⟨n+1,2,none⟩=some (.int .i64 0)/\W.cell? ⟨n+1,3,none⟩=some (.int .i64 0)/\W.cell? ⟨n+1,4,none⟩=some (.int .i64 0)/\W.cell? ⟨n+1,5,none⟩=some (.bool false))/\(W.cell? ⟨n+1+1,0,none⟩=some (.int .i64 0)/\W.cell? ⟨n+1+1,1,none⟩=some (.int .i64 0)/\W.cell? ⟨n+1+1,2,none⟩=some (.int .i64 0))/\(∀j,W.frozen? ⟨n,j,none⟩=false)/\(∀j,W.frozen? ⟨n+1,j,none⟩=false)/\(∀j,W.frozen? ⟨n+1+1,j,none⟩=false)/\n+1+1<W.heap.size:=
 ⟨h.dk.c6,h.rd.c6,h.rl.c3,h.dk.free,h.rd.free,h.rl.free,aA h.rl⟩
end
def aEd (n:Nat) (w d wr:World) (K:kB) (R:kB×zH×List ByteArray×Nat) (x:Int) (m j e:Nat) (f:List ByteArray):Prop:=
 (j<=m/\Below d.heap.size d wr/\R=goR K x (x+m) (uF K.fs (x+m) (m+1-j) (x+j) f e))\/
 (j=m+1/\∃b g l,SO n w wr b g l/\vC b.fs b.c b.k b.cr b.fl=true/\GB b.fs/\(∃i,∃h:i<b.fs.length,b.fs[i].name=vD (x+m))/\R=SK b x (x+m) e f)
def OpenSpec (w:World) (R:kB×zH×List ByteArray×Nat) (e:Ending) (b:World):Prop:=
 ∃(a':Option Addr) (cap':Nat) (c:Option Addr) (sc:Nat),e=.returned (.tuple #[.agg #[.slice a' R.1.fs.length cap',.int .i64 R.1.c,.int .i64 R.1.k,.int .i64 R.1.cr,.int .i64 R.1.fl,.bool R.1.dn],.agg #[.int .i64 R.2.1.first,.int .i64 R.2.1.last,.int .i64 R.2.1.size],.slice c R.2.2.1.length sc,.int .i64 (R.2.2.2:Nat)])/\
  iA b a' R.1.fs/\vS b c R.2.2.1/\Below w.heap.size w b
theorem aKo:(prog.info? 30).map (·.size)=some 6:=by kernel_rfl
theorem aKp:(prog.info? 32).map (·.size)=some 3:=by kernel_rfl
theorem gT {j:Func} {t:Act} {w W W':World} {V:kB×zH×List ByteArray×Nat} {K K':kB} {L:zH} {a a' h:Option Addr} {cap cap' sc d:Nat} {m:List ByteArray} (M:j.results=#[.cell 2 30,.cell 3 32,.tmp 4,.tmp 5]) (v:t.tmps.getD 2 undef=.pointer (some ⟨w.heap.size+1,0,none⟩)) (x:t.tmps.getD 3 undef=.pointer (some ⟨w.heap.size+1+1,0,none⟩)) (y:t.tmps.getD 4 undef=.slice h m.length sc) (z:t.tmps.getD 5 undef=.int .i64 (d:Nat)) (I:t.defers=[]) (H:SO w.heap.size w W K a cap) (E:V=(K',L,m,d)) (p:iA W a' K'.fs) (J:∀X,gA (fun i=>i=w.heap.size+1\/i=w.heap.size+1+1) W X->vS X h m)
 {r:World} (G:W'=((r.setCell ⟨w.heap.size+1+1,0,none⟩ (.int .i64 L.first)).setCell ⟨w.heap.size+1+1,1,none⟩ (.int .i64 L.last)).setCell ⟨w.heap.size+1+1,2,none⟩ (.int .i64 L.size)) (A:r=(((((W.setCell ⟨w.heap.size+1,0,none⟩ (.slice a' K'.fs.length cap')).setCell ⟨w.heap.size+1,1,none⟩ (.int .i64 K'.c)).setCell ⟨w.heap.size+1,2,none⟩ (.int .i64 K'.k)).setCell ⟨w.heap.size+1,3,none⟩ (.int .i64 K'.cr)).setCell ⟨w.heap.size+1,4,none⟩ (.int .i64 K'.fl)).setCell ⟨w.heap.size+1,5,none⟩ (.bool K'.dn)):
 bodyPost prog j (fun e q=>OpenSpec w V e q) .ret t W'/\bodyPost prog j (fun e q=>OpenSpec w V e q) .ret t W'.drew:=by
 subst E;have s:=A ▸ iM _ _ _ _ _ _;have u:=G ▸ (((eD.refl _ _).setCell 0 _).setCell 1 _).setCell 2 _;have l:=((gA.but s).mono fun i _ e=>Ba e).trans' ((gA.but u).mono fun i _ e=>Ea e);have C:=lA.but (A ▸ NI H.rd) u (by omega);have F:lA W' (w.heap.size+1+1) #[.int .i64 L.first,.int .i64 L.last,.int .i64 L.size] 32:=by
  have:=(((H.rl.but s (by omega)).set 0 (.int .i64 L.first)).set 1 (.int .i64 L.last)).set 2 (.int .i64 L.size);rw[G];simpa using this
 have B:=H.be.trans (l.below (Ma (Ke (aA H.dk)) (Da _)) fun i S e=>by omega);have D:=qx p l fun b o e f=>by
  rcases f with f|f
  ·exact er (vZ p H.rd) e f
  ·exact er (ze p H.rl) e f
 have g:∀X,lA X (w.heap.size+1) #[.slice a' K'.fs.length cap',.int .i64 K'.c,.int .i64 K'.k,.int .i64 K'.cr,.int .i64 K'.fl,.bool K'.dn] 30->lA X (w.heap.size+1+1) #[.int .i64 L.first,.int .i64 L.last,.int .i64 L.size] 32->(results j t.tmps).run prog X=.ok (.tuple #[.agg #[.slice a' K'.fs.length cap',.int .i64 K'.c,.int .i64 K'.k,.int .i64 K'.cr,.int .i64 K'.fl,.bool K'.dn],.agg #[.int .i64 L.first,.int .i64 L.last,.int .i64 L.size],.slice h m.length sc,.int .i64 (d:Nat)]) X:=fun X N O=>by
  have Q:=run_loadVar_row (P:=prog) X (w.heap.size+1) 30 30 _ (0,0) _ N underlying30 rfl (by rw[aKo];rfl);have R:=run_loadVar_row (P:=prog) X (w.heap.size+1+1) 32 32 _ (0,0) _ O underlying32 rfl (by rw[aKp];rfl);simp at v x y z;simp[results,M,v,x,y,z,asAddr,Q,R]
 exact⟨bodyPost_ret (g _ C F) I ⟨a',cap',h,sc,rfl,D,J _ l,B⟩,bodyPost_ret (g _ C F) I ⟨a',cap',h,sc,rfl,D.later (Below.refl _ _).drew,J _ l.drew,B.drew⟩⟩
