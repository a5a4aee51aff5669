import Derived.Test.YtjpeimianeiegaaGreatDoorJ06
import Derived.Test.YtjpeimianeiegaaGreatDoorJ03
import Derived.Lib.AppendIntMem
import Derived.Lib.RuneCountTail
set_option maxRecDepth 100000
set_option maxHeartbeats 1000000
namespace Go.Proofs.YtjpeimianeiegaaGreatDoor
open Go.RowKit Tryz
theorem lA.new (w:World) (cs:Array Value) (t:TypeId):lA (w.alloc (.cells cs t)) w.heap.size cs t:=heap_alloc_new _ _
theorem lA.alloc {w:World} {g:Nat} {a:Array Value} {t:TypeId} (h:lA w g a t) (o:Obj):lA (w.alloc o) g a t:=h.later (cA _ _)
theorem lA.but {w d:World} {g c:Nat} {a:Array Value} {t:TypeId} (h:lA w g a t) (e:eD c w d) (b:g≠c):lA d g a t:=(e.block g (aA h) b).trans h
structure eA where
 name:ByteArray
 l9:Int
 m9:List fA
 s9:List fA
def el (w:World) (b o:Nat) (t:eA):Prop:=
 ∃a d c e,w.cell? ⟨b,o,none⟩=some (.string t.name)/\w.cell? ⟨b,o+1,none⟩=some (.int .i64 t.l9)/\w.cell? ⟨b,o+2,none⟩=some (.slice a t.m9.length d)/\w.cell? ⟨b,o+3,none⟩=some (.slice c t.s9.length e)/\
  vA w a t.m9/\vA w c t.s9
def aNk (w:World) (b o:Nat) (a:List eA):Prop:=∀i (h:i<a.length),el w b (o+i*4) a[i]
def eC (w:World) (a:Option Addr) (c:List eA):Prop:=c=[]\/∃b o,a=some ⟨b,o,none⟩/\b<w.heap.size/\aNk w b o c
theorem el.later {w d:World} {b o:Nat} {t:eA} (h:el w b o t) (a:b<w.heap.size) (c:Below w.heap.size w d):el d b o t:=by
 obtain⟨e,g,f,i,j,k,l,m,n,p⟩:=h;exact⟨e,g,f,i,(c.cell a).trans j,(c.cell a).trans k,(c.cell a).trans l,(c.cell a).trans m,n.later c,p.later c⟩
theorem eC.later {w f:World} {a:Option Addr} {e:List eA} (h:eC w a e) (d:Below w.heap.size w f):eC f a e:=by
 rcases h with h|⟨b,o,rfl,c,h⟩
 ·exact Ba h
 ·exact Ea ⟨b,o,rfl,Ab c d.size,fun i g=>(h i g).later c d⟩
theorem eC.at {w:World} {a:Option Addr} {c:List eA} (h:eC w a c) {i:Nat} (k:i<c.length):
 ∃b o d f e g,a=some ⟨b,o,none⟩/\b<w.heap.size/\w.cell? ⟨b,o+i*4,none⟩=some (.string c[i].name)/\w.cell? ⟨b,o+i*4+1,none⟩=some (.int .i64 c[i].l9)/\
  w.cell? ⟨b,o+i*4+2,none⟩=some (.slice d c[i].m9.length f)/\w.cell? ⟨b,o+i*4+3,none⟩=some (.slice e c[i].s9.length g)/\vA w d c[i].m9/\vA w e c[i].s9:=by
 rcases h with rfl|⟨b,o,rfl,j,h⟩
 ·exact absurd k (by simp)
 ·obtain⟨d,f,e,g,h⟩:=h i k;exact⟨b,o,d,f,e,g,rfl,j,h⟩
def oD (w:World) (B:Nat) (T:Nat->Nat) (n:Nat) (a:Option Addr) (c:List fA):Prop:=
 c=[]\/∃g o b t,a=some ⟨g,o,none⟩/\B<=g/\T g=n/\w.heap[g]?=some (.cells b t (0,0))/\gY w g o c
theorem oD.pairs {w:World} {B n:Nat} {T:Nat->Nat} {a:Option Addr} {b:List fA} (h:oD w B T n a b):vA w a b:=by
 rcases h with h|⟨g,o,c,t,rfl,_,_,d,h⟩
 ·exact Ba h
 ·exact Ea ⟨g,o,rfl,aA d,h⟩
theorem oD.keep {w w':World} {B n:Nat} {T c:Nat->Nat} {a:Option Addr} {l:List fA} (h:oD w B T n a l)
 (s:∀g,g<w.heap.size->B<=g->T g=n->w'.heap[g]?=w.heap[g]?/\c g=n):oD w' B c n a l:=by
 rcases h with h|⟨g,o,b,t,e,f,p,k,h⟩
 ·exact Ba h
 ·obtain⟨d,m⟩:=s g (aA k) f p;have q:∀j,w'.cell? ⟨g,j,none⟩=w.cell? ⟨g,j,none⟩:=fun j=>World.cell?_of_block d;exact Ea ⟨g,o,b,t,e,f,m,d.trans k,fun i r=>by simp only[q];exact h i r⟩
def cP (w:World) (B:Nat) (T:Nat->Nat) (i b o:Nat) (t:eA):Prop:=
 ∃a d c e,w.cell? ⟨b,o,none⟩=some (.string t.name)/\w.cell? ⟨b,o+1,none⟩=some (.int .i64 t.l9)/\w.cell? ⟨b,o+2,none⟩=some (.slice a t.m9.length d)/\w.cell? ⟨b,o+3,none⟩=some (.slice c t.s9.length e)/\
  oD w B T (2*i+1) a t.m9/\oD w B T (2*i+2) c t.s9
def uC (w:World) (B:Nat) (a:Option Addr) (c:List eA):Prop:=
 c=[]\/∃g o b t T,a=some ⟨g,o,none⟩/\B<=g/\w.heap[g]?=some (.cells b t (0,0))/\T g=0/\∀i (h:i<c.length),cP w B T i g (o+i*4) c[i]
theorem cP.at {w:World} {B i b o:Nat} {T:Nat->Nat} {t:eA} (h:cP w B T i b o t):el w b o t:=by
 obtain⟨a,d,c,e,f,g,j,k,l,m⟩:=h;exact⟨a,d,c,e,f,g,j,k,l.pairs,m.pairs⟩
theorem uC.tens {w:World} {B:Nat} {a:Option Addr} {b:List eA} (h:uC w B a b):eC w a b:=by
 rcases h with h|⟨g,o,c,t,T,rfl,_,d,_,h⟩
 ·exact Ba h
 ·exact Ea ⟨g,o,rfl,aA d,fun i e=>(h i e).at⟩
theorem cP.keep {w w':World} {B i b o:Nat} {T l:Nat->Nat} {t:eA} (h:cP w B T i b o t) (c:∀j,j<4->w'.cell? ⟨b,o+j,none⟩=w.cell? ⟨b,o+j,none⟩)
 (m:∀g,g<w.heap.size->B<=g->(T g=2*i+1\/T g=2*i+2)->w'.heap[g]?=w.heap[g]?/\l g=T g):cP w' B l i b o t:=by
 obtain⟨n,q,p,r,s,u,v,x,y,z⟩:=h;refine⟨n,q,p,r,(c 0 (by omega)).trans s,(c 1 (by omega)).trans u,(c 2 (by omega)).trans v,(c 3 (by omega)).trans x,y.keep fun g e d a=>?_,z.keep fun g e d a=>?_⟩
 ·obtain⟨f,k⟩:=m g e d (Ba a);exact⟨f,k.trans a⟩
 ·obtain⟨f,k⟩:=m g e d (Ea a);exact⟨f,k.trans a⟩
theorem uC.later {w l:World} {B:Nat} {a:Option Addr} {k:List eA} (h:uC w B a k) (d:Below w.heap.size w l):uC l B a k:=by
 rcases h with h|⟨g,o,c,t,T,rfl,n,f,p,h⟩
 ·exact Ba h
 ·have b:=aA f;exact Ea ⟨g,o,c,t,T,rfl,n,(d.block g b).trans f,p,fun i q=>(h i q).keep (fun j _=>World.cell?_of_block (d.block g b)) fun m e _ _=>⟨d.block m e,rfl⟩⟩
def jE (t:eA):Nat:=t.name.size+(t.m9.length+wC t.m9)+(t.s9.length+wC t.s9)
def nA:List eA->Nat
 |[]=>0
 |f::r=>jE f+nA r
theorem mW (a b:List eA):nA (a++b)=nA a+nA b:=by
 induction a with
 |nil=>simp[nA]
 |cons f r c=>simp[nA,c];omega
theorem rR (a:List eA) (k:Nat) (h:k<a.length):nA (a.take (k+1))=nA (a.take k)+jE a[k]:=by
 rw[La h,mW];simp[nA]
theorem vU (a:List eA) (k:Nat):nA (a.take k)<=nA a:=by
 have:=mW (a.take k) (a.drop k);rw[Xa]at this;omega
theorem BT (a:List eA) (k:Nat) (h:k<a.length):jE a[k]<=nA a:=by
 have b:=rR a k h;have c:=vU a (k+1);omega
structure gA (S:Nat→Prop) (w w':World):Prop where
 os:w'.os=w.os
 tape:w'.tape=w.tape
 output:w'.output=w.output
 size:w.heap.size≤w'.heap.size
 block:∀k,k<w.heap.size→¬S k→w'.heap[k]?=w.heap[k]?
theorem gA.refl (S:Nat->Prop) (w:World):gA S w w:=⟨rfl,rfl,rfl,Da _,fun _ _ _=>rfl⟩
theorem gA.trans {S:Nat->Prop} {a b c:World} (h:gA S a b) (k:gA (fun i=>S i\/a.heap.size<=i) b c):gA S a c:=
 ⟨k.os.trans h.os,k.tape.trans h.tape,k.output.trans h.output,Ma h.size k.size,fun i e f=>(k.block i (Ab e h.size) (fun d=>by rcases d with d|d;exact f d;omega)).trans (h.block i e f)⟩
theorem gA.trans' {S:Nat->Prop} {a b c:World} (h:gA S a b) (k:gA S b c):gA S a c:=
 ⟨k.os.trans h.os,k.tape.trans h.tape,k.output.trans h.output,Ma h.size k.size,fun i d e=>(k.block i (Ab d h.size) e).trans (h.block i d e)⟩
theorem gA.mono {S S':Nat->Prop} {a b:World} (h:gA S a b) (f:∀i,i<a.heap.size->S i->S' i):gA S' a b:=
 ⟨h.os,h.tape,h.output,h.size,fun i c e=>h.block i c (fun d=>e (f i c d))⟩
theorem gA.of {S:Nat->Prop} {a b:World} (h:Below a.heap.size a b):gA S a b:=⟨h.os,h.tape,h.output,h.size,fun k c _=>h.block k c⟩
theorem gA.but {g:Nat} {a b:World} (h:eD g a b):gA (·=g) a b:=⟨h.os,h.tape,h.output,h.size,fun k c d=>h.block k c d⟩
theorem gA.grown {r:Option Nat} {a b:World} (h:a.grownBy b r):gA (fun k=>r=some k) a b:=⟨h.os,h.tape,h.output,h.size,fun k c d=>h.block k c (fun e=>d e.symm)⟩
theorem gA.below {S:Nat->Prop} {B:Nat} {a b:World} (h:gA S a b) (e:B<=a.heap.size) (d:∀k,k<B->¬S k):Below B a b:=
 ⟨h.os,h.tape,h.output,h.size,fun k c=>h.block k (by omega) (d k c)⟩
theorem gA.drew {S:Nat->Prop} {a b:World} (h:gA S a b):gA S a b.drew:=⟨h.os,h.tape,h.output,h.size,h.block⟩
theorem gA.setCell {S:Nat->Prop} {a b:World} (h:gA S a b) {g:Nat} (c:S g\/a.heap.size<=g) (o:Nat) (v:Value):gA S a (b.setCell ⟨g,o,none⟩ v):=
 h.trans ((gA.but ((eD.refl g b).setCell o v)).mono fun i _ e=>by subst e;exact c)
theorem gA.blk {S:Nat->Prop} {a b:World} (h:gA S a b) {g:Nat} {c:Array Value} {t:TypeId} (d:lA a g c t) (e:¬S g):lA b g c t:=(h.block g (aA d) e).trans d
theorem gA.row {S:Nat->Prop} {a b:World} (h:gA S a b) {B:Nat} {e:TypeId} {c:Nat} {v:Value} {n:Nat} {k:List Value} (j:a.ownsRow B e c v n k) (o:∀g,v.ownBlock=some g->¬S g):b.ownsRow B e c v n k:=by
 refine⟨j.1,?_⟩;rcases j.2 with l|⟨g,d,f,rfl,m,i,r⟩
 ·exact Ba l
 ·exact Ea ⟨g,d,f,rfl,m,(h.block g (aA i) (o g rfl)).trans i,r⟩
theorem gA.map {H:Type} {S:Nat->Prop} {a b:World} (h:gA S a b) {P:Program} {k:TypeId} {R:Value->Option (DataW H×List MemPlace)} {m n:Nat} {D:DataW H} (e:a.ownsMap P k R m n D) (i:¬S m):b.ownsMap P k R m n D:=by
 have d:=e.lt;obtain⟨f,c,g,r⟩:=e;exact⟨f,c,(h.block m d i).trans g,r⟩
theorem gb (w:World) (n:Int):(convert 160 9 (.slice (some ⟨w.heap.size,0,none⟩) 1 1)).run prog (w.alloc (.cells #[.int .u8 n] 5))=.ok (.string ⟨#[UInt8.ofNat n.toNat]⟩) (w.alloc (.cells #[.int .u8 n] 5)):=by
 rw[run_convert_bytes_string _ 160 9 5 _ 1 1 underlying160 underlying5 underlying9,run_bytesToString _ _ 1 1 [n] (by simp[go_sem,loadCells])];rfl
theorem ck (c:UInt8) (s:ByteArray):((⟨#[c]⟩:ByteArray)++s).data.toList=c::s.data.toList:=by
 simp
theorem FM (c:UInt8) (s:ByteArray):((⟨#[c]⟩:ByteArray)++s).size=s.size+1:=by
 rw[Ia];show 1+s.size=_;omega
theorem WD (s:ByteArray) (l:List UInt8) (h:s.data.toList=l):s=⟨l.toArray⟩:=by
 subst h;simp
theorem qq {n:Nat} (h:0<n) (a:List UInt8):rK n n a=rK (n / 10) (n / 10) ((48+UInt8.ofNat (n % 10)):: a):=by
 obtain⟨m,rfl⟩:∃m,n=m+1:=⟨n-1,by omega⟩
 conv=>lhs;rw[rK]
 rw[Ca (by omega)];exact JS _ _ _ _ (by omega) (Da _)
theorem ZW (k:Nat) (w:World) (o:0<k) (p:k<=1000000000):
 Calls prog 74 #[.int .i64 (k:Int)] w fun e m=>e=.returned (.string (mt k))/\Below w.heap.size w m:=by
 have i:=gb;go_enter func74,ntmps74;go_wp2;go_loopw [0,3] (fun a s wr=>∃(n:Nat) (c:ByteArray),c.size+n<=k/\a=.int .i64 n/\s=.string c/\rK n n c.data.toList=rK k k []/\Below w.heap.size w wr) (fun a _ _=>(intOf a).toNat)
 case atStart=>exact⟨k,ByteArray.empty,by simp,rfl,rfl,rfl,Below.refl _ _⟩
 case round=>
  obtain⟨n,c,q,rfl,rfl,d,b⟩:=hrel;have f:Hid (rK n n c.data.toList=rK k k []):=d;clear d;have l:(c.size:Int)<=1000000000:=by omega
  by_cases j:0<n
  ·go_wp2;refine⟨⟨n / 10,_,?_,by go_num,rfl,?_,b.alloc b.size _⟩,by simp[intOf];omega⟩
   ·rw[FM];omega
   ·rw[ck,<-qq j];exact f.out
  ·go_wp2;go_ret;refine⟨?_,b⟩;have g:n=0:=by omega
   have d:=f.out;rw[g]at d;have e:c.data.toList=rK k k []:=by rw[<-d];rfl
   have h:((⟨#[109]⟩:ByteArray)++c)=mt k:=by
    unfold mt;exact WD _ _ (by rw[ck,e])
   exact Zc (fun x=>Ending.returned (.string x)) h
theorem wG (k:Int) (n:Nat) (c:k=(n:Int)) (w:World) (a:0<n) (b:n<=1000000000):
 Calls prog 74 #[.int .i64 k] w fun e d=>e=.returned (.string (mt n))/\Below w.heap.size w d:=c ▸ ZW n w a b
theorem qt (a b c:Int) (w:World):
 Calls prog 33 #[.agg #[.int .i64 a,.int .i64 b,.int .i64 c],.agg #[.int .i64 a,.int .i64 b,.int .i64 c]] w fun e d=>e=.returned (.bool true)/\Below w.heap.size w d:=by
 go_enter func33,ntmps33;go_wp2;go_ret;exact⟨rfl,pA (cA _ _) (cA _ _)⟩
def zI (c:UInt8):Bool:=decide (48<=c.toNat/\c.toNat<=57)
def tQ (l:List UInt8):Nat:=l.foldl (fun v c=>v*10+(c.toNat-48)) 0
theorem zz (l:List UInt8) (c:UInt8):tQ (l++[c])=tQ l*10+(c.toNat-48):=by simp[tQ]
def mE (s:ByteArray):Nat:=if s.size=10/\s.extract 0 4=⟨#[119,97,108,45]⟩/\(zC s 4 6).all zI=true then tQ (zC s 4 6) else 0
theorem MM (m:Nat):(48+UInt8.ofNat (m % 10)).toNat=48+m % 10:=by
 rw[UInt8.toNat_add];simp only[UInt8.toNat_ofNat'];have:m % 10<10:=Nat.mod_lt _ (by omega);show(48+m % 10 % 2 ^ 8) % 2 ^ 8=_;omega
theorem GV {c:UInt8} {m:Nat} (h:zI c=true) (e:m % 10=c.toNat-48):48+UInt8.ofNat (m % 10)=c:=by
 simp only[zI,Ya]at h;apply UInt8.toNat.inj;rw[MM];omega
theorem XK (n:Nat):(wR n).size=10:=by
 show(119::97::108::45::zK n 6).toArray.size=10;simp[zJ]
theorem XJ (n:Nat):zC (wR n) 4 6=zK n 6:=by
 simp[zC,wR,zK]
theorem aDl (n:Nat):(wR n).extract 0 4=⟨#[119,97,108,45]⟩:=by
 apply ByteArray.ext;simp[wR]
theorem EW {n:Nat} (h:n<1000000):tQ (zK n 6)=n:=by
 simp only[zK,tQ,Wc,List.foldl_nil,MM];omega
theorem EX (n:Nat):(zK n 6).all zI=true:=by
 have h:∀m:Nat,zI (48+UInt8.ofNat (m % 10))=true:=fun m=>by
  simp only[zI,MM,Ya];have:m % 10<10:=Nat.mod_lt _ (by omega);omega
 simp only[zK,Af,List.all_nil,h,Bool.and_self]
theorem BL {n:Nat} (h:n<1000000):mE (wR n)=n:=by
 rw[mE,Ga ⟨XK n,aDl n,by rw[XJ];exact EX n⟩,XJ,EW h]
theorem aOy {l:List UInt8} (h:l.length=6):∃a b c d e f,l=[a,b,c,d,e,f]:=by
 match l,h with
 |[a,b,c,d,e,f],_=>exact⟨a,b,c,d,e,f,rfl⟩
theorem aMe {l:List UInt8} (p:l.length=6) (h:l.all zI=true):zK (tQ l) 6=l/\tQ l<1000000:=by
 obtain⟨a,b,c,d,e,f,rfl⟩:=aOy p;simp only[Af,List.all_nil,Bool.and_true,Na]at h;obtain⟨i,j,k,m,n,o⟩:=h;have g:∀c,zI c=true->48<=c.toNat/\c.toNat<=57:=fun c h=>by simpa[zI]using h
 have q:=g a i;have r:=g b j;have s:=g c k;have t:=g d m;have u:=g e n;have v:=g f o;have E:tQ [a,b,c,d,e,f]=(((((a.toNat-48)*10+(b.toNat-48))*10+(c.toNat-48))*10+(d.toNat-48))*10+(e.toNat-48))*10+(f.toNat-48):=by simp[tQ]
 refine⟨?_,by omega⟩;simp only[zK,List.cons.injEq,Ub];refine⟨GV i ?_,GV j ?_,GV k ?_,GV m ?_,GV n ?_,GV o ?_⟩<;>omega
theorem lQ {s:ByteArray} (h:0<mE s):s=wR (mE s)/\mE s<1000000:=by
 have i:s.size=10/\s.extract 0 4=⟨#[119,97,108,45]⟩/\(zC s 4 6).all zI=true:=by
  refine Mf fun k=>?_;rw[mE,Ca k]at h;omega
 obtain⟨d,hh,c⟩:=i;have j:(zC s 4 6).length=6:=by
  simp only[zC,Ta,Lc];have:s.data.toList.length=10:=d;omega
 obtain⟨e,a⟩:=aMe j c;have E:mE s=tQ (zC s 4 6):=by rw[mE,Ga ⟨d,hh,c⟩]
 rw[E];refine⟨?_,a⟩;have f:s.data.toList.take 4=[119,97,108,45]:=by
  have:=Zc (fun b:ByteArray=>b.data.toList) hh;simpa using this
 have g:zC s 4 6=s.data.toList.drop 4:=by
  simp only[zC];rw[Pa (by simp;omega)]
 apply ByteArray.ext;apply Array.toList_inj.1;show s.data.toList=119::97::108::45::zK (tQ (zC s 4 6)) 6;rw[e,g];conv=>lhs;rw[<-Xa 4 s.data.toList,f]
 rfl
theorem GO {n:Nat} (h:n<1000000):Lib.atoiAll (Lib.trimPrefix (wR n).data.toList [119,97,108,45])=.ok (n:Int):=by
 have p:Lib.trimPrefix (wR n).data.toList [119,97,108,45]=zK n 6:=by
  simp[Lib.trimPrefix,Lib.hasPrefix,wR,zK]
 have m:∀(l:List UInt8) (a k:Nat),l.all zI=true->a<10 ^ k->l.length+k<=6->Lib.parseUint10 a l=.ok (l.foldl (fun v c=>v*10+(c.toNat-48)) a):=by
  intro l;induction l with
  |nil=>intro a k _ _ _;rfl
  |cons c r q=>
   intro a k b s e;simp only[Af,Na]at b;have g:48<=c.toNat/\c.toNat<=57:=by simpa[zI]using b.1
   have j:10 ^ k<=10 ^ 6:=Zb (by omega) (by simp at e;omega);rw[Lib.parseUint10,Ga g,Ca (by omega),Ca (by omega),Wc];refine q _ (k+1) b.2 ?_ (by simp at e |-;omega);rw[Oc];omega
 have f:Lib.parseMag (zK n 6)=.ok n:=by
  rw[Lib.parseMag,Ca (by simp[zK]),m _ 0 0 (EX n) (by simp) (by simp[zJ])];exact Zc _ (EW h)
 rw[p];have i:=MM (n / 10 ^ 5);have o:zK n 6=(48+UInt8.ofNat (n / 10 ^ 5 % 10)):: zK n 5:=rfl;rw[o]at f |-
 simp only[Lib.atoiAll];rw[Ca (by omega),f];have d:¬(48+UInt8.ofNat (n / 10 ^ 5 % 10)).toNat=45:=by omega
 simp only[d];simp;omega
def xI (w : World) : Prop := Lib.TabIs prog w "internal/strconv.uint64pow10" .u64 Lib.pow10Tab
theorem xI.later {w c:World} (h:xI w) (d:Below w.heap.size w c):xI c:=by
 unfold xI Lib.TabIs World.var? at h |-
 cases hg : prog.globalNamed "internal/strconv.uint64pow10" with
 |none=>rw[hg]at h;cases h
 |some g=>
  rw[hg]at h;simp only[Option.bind_some]at h |-
  have b:g<w.heap.size:=by
   rcases Ac g w.heap.size with a|a
   ·exact a
   ·rw[Tc a]at h;cases h
  rw[d.block g b];exact h
theorem aMf (n:Nat) (h:n<1000000):(⟨#[119,97,108,45]⟩:ByteArray)++(⟨(Lib.itoa ((1000000+n:Nat):Int)).toArray⟩:ByteArray).extract 1 7=wR n:=by
 rw[js n h];apply ByteArray.ext;simp[wR,zK]
theorem jX (n:Int) (w:World) (a:xI w):
 Calls prog 102 #[.int .i64 n] w fun e c=>e=.returned (.string (vD n))/\Below w.heap.size w c:=by
 by_cases h:1<=n/\n<=999999
 ·obtain⟨N,rfl⟩:=Int.eq_ofNat_of_zero_le (show 0<=n by omega);have E:Hid (vD N=wR N):=Ga h;have i:1<=N:=by omega
  have j:N<=999999:=by omega
  have f:Hid (Calls prog 141 #[.int .i64 (1000000+(N:Int))] w fun e c=>e=.returned (.string ⟨(Lib.itoa ((1000000+N:Nat):Int)).toArray⟩)/\Below w.heap.size w c):=
   (strconv_Itoa ((1000000+N:Nat):Int) (by omega) (by omega) w a).mono (by
    rintro e c ⟨rfl,k,p,rfl⟩;exact⟨rfl,Lib.below_grow _ _ (Da _) _ _⟩)
  have g:Hid _:=aMf N (by omega);have o:(⟨(Lib.itoa ((1000000+N:Nat):Int)).toArray⟩:ByteArray).size=7:=by
   rw[js N (by omega)];simp[zK,ByteArray.size]
  generalize (⟨(Lib.itoa ((1000000+N:Nat):Int)).toArray⟩:ByteArray)=X at *;clear h a;go_enter func102,ntmps102;go_wp2_with fail;refine f.out.mono ?_;rintro e q ⟨rfl,b⟩;have d:Hid _:=b;clear b;go_wp2;go_ret;refine⟨?_,d.out⟩;rw[E.out,<-g.out];rfl
 ·have E:Hid (vD n=ByteArray.empty):=Ca h;by_cases l:n<1
  ·go_enter func102,ntmps102;go_wp2;go_ret;exact⟨by rw[E.out];rfl,Below.refl _ _⟩
  ·have m:999999<n:=by omega
   clear h;go_enter func102,ntmps102;go_wp2;go_ret;exact⟨by rw[E.out];rfl,Below.refl _ _⟩
theorem rE:∀x:List UInt8,Op.bytesLess x x=false
 |[]=>rfl
 |a::x=>by simp[Op.bytesLess,rE x]
theorem dH:∀x y z:List UInt8,Op.bytesLess x y=true->Op.bytesLess y z=true->Op.bytesLess x z=true
 |_,_,[],_,h=>by simp[Op.bytesLess]at h
 |_,[],_::_,h,_=>by simp[Op.bytesLess]at h
 |[],_::_,_::_,_,_=>by simp[Op.bytesLess]
 |a::x,b::y,c::z,e,d=>by
  simp only[Op.bytesLess,Bd,Na,Ya,Jf]at e d |-
  rcases e with e|⟨rfl,e⟩
  ·rcases d with d|⟨rfl,_⟩
   ·exact Ba (UInt8.lt_trans e d)
   ·exact Ba e
  ·rcases d with d|⟨rfl,d⟩
   ·exact Ba d
   ·exact Ea ⟨rfl,dH x y z e d⟩
theorem wJ:∀x y:List UInt8,Op.bytesLess x y=false->x≠y->Op.bytesLess y x=true
 |[],[],_,h=>absurd rfl h
 |[],_::_,h,_=>by simp[Op.bytesLess]at h
 |_::_,[],_,_=>by simp[Op.bytesLess]
 |a::x,b::y,h,hne=>by
  simp only[Op.bytesLess,Bool.or_eq_false_iff,Bg,Ve,Bd,Na,Ya,Jf]at h |-
  obtain⟨d,c⟩:=h;by_cases e:a=b
  ·subst e;rcases c with c|c
   ·simp at c
   ·exact Ea ⟨rfl,wJ x y c (fun e=>hne (by rw[e]))⟩
  ·left;rcases UInt8.lt_or_lt_of_ne e with h|h
   ·exact absurd h d
   ·exact h
theorem qL {x y:List UInt8} (h:Op.bytesLess x y=true):Op.bytesLess y x=false:=by
 rw[Ic];intro a;have:=dH x y x h a;rw[rE]at this;exact absurd this (by simp)
theorem toList_inj {x y:ByteArray} (h:x.toList=y.toList):x=y:=by
 have a:x.data.toList=y.data.toList:=by rw[<-ByteArray.toList_eq x,<-ByteArray.toList_eq y];exact h
 cases x;cases y
 simp only[ByteArray.mk.injEq];exact Array.toList_inj.1 a
theorem AK (a c:ByteArray) (d:Int) (t:ByteArray) (w:World):Calls prog 125 #[.agg #[.string a,.string c,.int .i64 d],.string t] w fun e b=>e=.returned (.int .i64 (vW a t))/\Below w.heap.size w b:=by
 go_enter func125,ntmps125;go_wp2_with(first|(go_at_call 126;refine(JN _ _ _).mono ?_;rintro e b ⟨rfl,rfl⟩));go_ret;exact⟨rfl,cA _ _⟩
def GH (w:World) (a:Option Addr) (l:List Int):Prop:=l=[]\/∃b o,a=some ⟨b,o,none⟩/\b<w.heap.size/\∀i (h:i<l.length),w.cell? ⟨b,o+i,none⟩=some (.int .i64 l[i])
theorem GH.at {w:World} {a:Option Addr} {l:List Int} (h:GH w a l) {i:Nat} (d:i<l.length):∃b o,a=some ⟨b,o,none⟩/\b<w.heap.size/\w.cell? ⟨b,o+i,none⟩=some (.int .i64 l[i]):=by
 rcases h with rfl|⟨b,o,rfl,c,h⟩
 ·exact absurd d (by simp)
 ·exact⟨b,o,rfl,c,h i d⟩
theorem qX {w:World} {B:Nat} {e:TypeId} {a:Option Addr} {c:Nat} {l:List Int} (h:w.ownsRow B e 1 (.slice a l.length c) l.length (l.map (Value.int .i64))):GH w a l:=by
 rcases h.2 with⟨_,o⟩|⟨g,f,b,k,q,m,_,_,p,d⟩
 ·exact Ba (Fb.1 o)
 ·simp only[Value.slice.injEq]at k;refine Ea ⟨g,0,k.1,aA m,fun i n=>?_⟩;rw[Oa,cell_of_row w g i b _ _ m];have j:(b.toList.take (l.length*1))[i]?=(l.map (Value.int .i64))[i]?:=by rw[d]
  rw[Eb (by omega)]at j;rw[<-Sd,j];simp[Ka n]
theorem jh:∃i,prog.info? 3=some i/\i.zero=some (.int .i64 0)/\i.size=1/\i.bytes=8:=by
 have h:(prog.info? 3).map (fun i=>(i.zero,i.size,i.bytes))=some (some (.int .i64 0),1,8):=by kernel_rfl
 obtain⟨i,b,a⟩:=Ib.1 h;simp only[Hb]at a;exact⟨i,b,a.1,a.2.1,a.2.2⟩
theorem oU {P:Program} {w:World} (base:Nat) (t p e:TypeId) (i:TypeInfo) (b:Nat) (k:P.underlying t=some (.slice e)) (h:P.info? e=some i)
 (v:Value) (n:Nat) (q:List Value) (a:w.ownsRow base e b v n q) (c:Option Addr) (l:Nat):
 (Builtin.append_ #[t,t] p #[v,.slice c 0 l]).run P w=.ok v w:=by
 have j:∀f:Addr,(loadCells f 0).run P w=.ok #[] w:=fun f=>by
  simp[loadCells,loadCellsFrom]
 rcases a.2 with⟨rfl,rfl⟩|⟨g,m,o,rfl,_,_,d,_⟩
 ·cases c<;>simp[Builtin.append_,run_underlying k,sizeOf,typeInfo,h,Builtin.lenOf,Builtin.firstCells,j]
 ·cases c<;>simp[Builtin.append_,run_underlying k,sizeOf,typeInfo,h,Builtin.lenOf,Builtin.firstCells,d,storeCells,j]
theorem tK {P:Program} {w:World} {g:Array Oper} {b:List Oper} {o:Oper} {a:Act} {Q:Exit->Act->World->Prop} (j:o.guard=none) (s x:Operand) (t:TypeId)
 (r:o.op=.call { callee:=.builtin .append,args:=#[s,x],argTypes:=#[t,t] })
 (base:Nat) (e:TypeId) (i:TypeInfo) (c:Nat) (y:P.underlying t=some (.slice e)) (q:P.info? e=some i)
 (v:Value) (n:Nat) (m:List Value) (u:a.eval s=v) (d:w.ownsRow base e c v n m) (k:Option Addr) (l:Nat) (z:a.eval x=.slice k 0 l)
 (h:wpList P g Q b (a.put o.dst v) w):wpList P g Q (o::b) a w:=by
 refine wpList_plain j fun K p=>?_;have f:=oU (P:=P) (w:=w) base t o.type e i c y q v n m d k l;unfold Oper.wp;simp[execOp,r,resolve,invoke,builtin,u,z,f,Result.andThen];exact p _ _ h
def xV (s:ByteArray):ByteArray:=aB 1 (s.size:Nat)++s
def nG (s:ByteArray):ByteArray:=aB 2 (s.size:Nat)++s
theorem yO (s:ByteArray):(xV s).size=1+s.size:=by rw[xV,Ia,bB]
theorem jK (s:ByteArray):(nG s).size=2+s.size:=by rw[nG,Ia,bB]
theorem dP {x y:ByteArray} (h:x.data.toList=y.data.toList):x=y:=by
 cases x;cases y
 simp only[ByteArray.mk.injEq];exact Array.toList_inj.1 h
theorem gM (x y:ByteArray):(x++y).data.toList=x.data.toList++y.data.toList:=by simp
theorem qI (s:ByteArray) (i j:Nat):(s.extract i j).data.toList=(s.data.toList.take j).drop i:=by
 rw[ByteArray.data_extract,Array.toList_extract,List.extract_eq_drop_take']
theorem mJ (s:ByteArray):s.size=s.data.toList.length:=by simp
structure Rd where
 rest:ByteArray
 r9:Bool
def wB (n:Nat) (r:Rd):ByteArray×Rd:=if r.rest.size<n then(ByteArray.empty,⟨r.rest,true⟩) else(r.rest.extract 0 n,⟨r.rest.extract n r.rest.size,r.r9⟩)
def gB (k:Nat) (r:Rd):Nat×Rd:=(mL (wB k r).1.data.toList,(wB k r).2)
def yA (k:Nat) (r:Rd):ByteArray×Rd:=wB (gB k r).1 (gB k r).2
theorem eJ (n:Nat) (r:Rd):(wB n r).1.size<=n/\(wB n r).1.size<=r.rest.size/\(wB n r).2.rest.size<=r.rest.size:=by
 unfold wB;split
 ·exact⟨by simp,by simp,Da _⟩
 ·refine⟨?_,?_,?_⟩<;>simp<;>omega
theorem bK {n:Nat} {r:Rd} (h:(wB n r).2.r9=false):r.r9=false/\(wB n r).1.size=n/\r.rest=(wB n r).1++(wB n r).2.rest:=by
 unfold wB at *;split at h
 ·exact absurd h (by simp)
 ·rename_i a;rw[Ca a];refine⟨h,by simp;omega,?_⟩;apply dP;rw[gM,qI,qI,Vc,mJ,Qb,Xa]
theorem sU {n:Nat} {r:Rd} {t q:ByteArray} (h:r.rest=t++q) (a:t.size=n):wB n r=(t,⟨q,r.r9⟩):=by
 have d:r.rest.size=n+q.size:=by rw[h,Ia,a]
 unfold wB;rw[Ca (by omega)];have b:r.rest.extract 0 n=t:=by
  apply dP;rw[qI,Vc,h,gM,<-a,mJ,Xg]
 have c:r.rest.extract n r.rest.size=q:=by
  apply dP;rw[qI,mJ r.rest,Qb,h,gM,<-a,mJ,List.drop_left]
 rw[b,c]
theorem RY {k:Nat} {r:Rd} (h:(yA k r).2.r9=false):r.r9=false/\r.rest=aB k ((yA k r).1.size:Nat)++((yA k r).1++(yA k r).2.rest):=by
 obtain⟨f,g,i⟩:=bK (r:=(gB k r).2) h;obtain⟨b,c,d⟩:=bK (n:=k) (r:=r) f;refine⟨b,?_⟩;have e:aB k ((yA k r).1.size:Nat)=(wB k r).1:=by
  show aB k ((wB (gB k r).1 (gB k r).2).1.size:Nat)=_;rw[g];have:=MS (wB k r).1.data.toList k (by rw[<-mJ];exact c);show aB k (mL (wB k r).1.data.toList:Nat)=_;rw[this]
 rw[e];have a:(wB k r).2.rest=(yA k r).1++(yA k r).2.rest:=i;rw[<-a];exact d
theorem pQ {k:Nat} {r:Rd} {t q:ByteArray} (h:r.rest=aB k (t.size:Nat)++(t++q)) (d:t.size<256 ^ k):yA k r=(t,⟨q,r.r9⟩):=by
 have a:=sU (n:=k) h (bB k _);have b:(gB k r).1=t.size:=by
  show mL (wB k r).1.data.toList=_;rw[a];exact aO k t.size d
 have c:(gB k r).2=⟨t++q,r.r9⟩:=by
  show(wB k r).2=_;rw[a]
 rw[yA,b,c];exact sU rfl rfl
theorem kK (k:Nat) (r:Rd):(yA k r).1.size<=r.rest.size/\(yA k r).2.rest.size<=r.rest.size:=by
 have b:=eJ k r;have a:=eJ (gB k r).1 (gB k r).2;have e:(gB k r).2=(wB k r).2:=rfl;rw[e]at a;exact⟨by have:=a.2.1;unfold yA;rw[e];omega,by have:=a.2.2;unfold yA;rw[e];omega⟩
theorem dT (k:Nat) (r:Rd):(gB k r).1<256 ^ k:=by
 have h:=wS (wB k r).1.data.toList;have a:=(eJ k r).1;have b:256 ^ (wB k r).1.data.toList.length<=256 ^ k:=Zb (by omega) (by rw[<-mJ];exact a);show mL (wB k r).1.data.toList<_;omega
def I64 (v:Int):Prop:=-9223372036854775808<=v/\v<=9223372036854775807
def zA (n:Nat):Int:=IntKind.i64.wrap (n:Int)
theorem GA (n:Nat):zA n=if n % 18446744073709551616<9223372036854775808 then((n % 18446744073709551616:Nat):Int) else((n % 18446744073709551616:Nat):Int)-18446744073709551616:=by
 unfold zA IntKind.wrap;simp[IntKind.bits,IntKind.signed];split<;>split<;>omega
theorem pF {n:Nat} (h:n<9223372036854775808):zA n=(n:Int):=by rw[GA,Ga (by omega)];omega
theorem yN (n:Nat):I64 (zA n):=by rw[GA];unfold I64;split<;>omega
theorem aHf (n:Nat) (v:Int):aB n v=aB n ((v % (256 ^ n:Nat)).toNat:Nat):=by
 have key:∀m,m<=n->pW v m=pW ((v % (256 ^ n:Nat)).toNat:Nat) m:=by
  intro m;induction m with
  |zero=>intro _;rfl
  |succ m a=>
   intro h;rw[pW,pW,a (by omega)];congr 1;have b:∀(u:Int) k,BM u k=u / ((256 ^ k:Nat):Int):=by
    intro u k;induction k with
    |zero=>simp[BM]
    |succ k a=>rw[BM,a,Int.ediv_ediv_of_nonneg (Int.natCast_nonneg _),Oc,Int.natCast_mul];rfl
   have c:0<=v % ((256 ^ n:Nat):Int):=Int.emod_nonneg _ (by have:=We (n:=n) (show 0<256 by omega);omega);rw[b,b,Int.toNat_of_nonneg c];obtain⟨d,g⟩:∃d,n=m+1+d:=⟨n-m-1,by omega⟩
   have e:((256 ^ n:Nat):Int)=((256 ^ m:Nat):Int)*(256*((256 ^ d:Nat):Int)):=by
    subst g;rw[Nat.pow_add,Nat.pow_add,Nat.pow_one,Nat.mul_assoc,Int.natCast_mul,Int.natCast_mul];rfl
   have i:(0:Int)<((256 ^ m:Nat):Int):=by have:=We (n:=m) (show 0<256 by omega);omega
   generalize ((256 ^ m:Nat):Int)=A at *;generalize ((256 ^ d:Nat):Int)=D at *;rw[e];have f:v % (A*(256*D))=v-A*(256*D*(v / (A*(256*D)))):=by
    rw[Int.emod_def];congr 1;rw[Int.mul_assoc]
   rw[f,show v-A*(256*D*(v / (A*(256*D))))=v+A*(-(256*D*(v / (A*(256*D))))) by rw[Int.mul_neg];rfl,Int.add_mul_ediv_left _ _ (by omega)];rw[show -(256*D*(v / (A*(256*D))))=256*(-(D*(v / (A*(256*D))))) by rw[Int.mul_neg,Int.mul_assoc],Int.add_mul_emod_self_left]
 show strOfNums _=strOfNums _;rw[key n (Da _)]
theorem pT (v:Int) (h:I64 v):zA (mL (aB 8 v).data.toList)=v:=by
 obtain⟨b,c⟩:=h;have a:((256 ^ 8:Nat):Int)=18446744073709551616:=by decide
 have d:((v % ((256 ^ 8:Nat):Int)).toNat:Int)=v % 18446744073709551616:=by rw[a];omega
 rw[aHf,aO 8 _ (by
  have:(256:Nat) ^ 8=18446744073709551616:=by decide
  rw[this];omega),GA]
 split<;>omega
theorem aW {n:Nat} {r:Rd} (h:r.r9=true):(wB n r).2.r9=true:=by
 unfold wB;split<;>simp[h]
theorem uD {k:Nat} {r:Rd} (h:r.r9=true):(gB k r).2.r9=true:=by rw[gB];exact aW h
theorem uL {k:Nat} {r:Rd} (h:r.r9=true):(yA k r).2.r9=true:=by rw[yA];exact aW (uD h)
theorem sM {k:Nat} {r:Rd} {v:Int} {q:ByteArray} (h:r.rest=aB k v++q):gB k r=(mL (aB k v).data.toList,⟨q,r.r9⟩):=by
 have a:=sU (n:=k) h (bB k _);unfold gB;rw[a]
def MU {α:Type} (f:Rd->α×Rd) (r:Rd):Nat->List α×Rd
 |0=>([],r)
 |k+1=>((MU f r k).1++[(f (MU f r k).2).1],(f (MU f r k).2).2)
section
variable {α:Type} {f:Rd→α×Rd} {r:Rd}
theorem BH (k:Nat):(MU f r k).1.length=k:=by
 induction k with
 |zero=>rfl
 |succ k a=>rw[MU];simp[a]
theorem mU (hf : ∀ r : Rd, r.r9 = true → (f r).2.r9 = true) {k : Nat} (h : (MU f r k).2.r9 = true) {m : Nat} (hm : k ≤ m) : (MU f r m).2.r9 = true := by
  induction hm with
  | refl => exact h
  | step _ ih => exact hf _ ih
theorem xv (a:∀r:Rd,(f r).2.rest.size<=r.rest.size) (k:Nat):(MU f r k).2.rest.size<=r.rest.size:=by
 induction k with
 |zero=>exact Da _
 |succ k b=>exact Ma (a _) b
theorem mn {n:Nat} (a:∀r:Rd,r.r9=true->(f r).2.r9=true) (b:∀r:Rd,(f r).2.r9=false->(f r).2.rest.size+n<=r.rest.size) {k:Nat} (h:(MU f r k).2.r9=false):(MU f r k).2.rest.size+n*k<=r.rest.size:=by
 induction k with
 |zero=>exact Da _
 |succ k c=>
  have d:=c (by
   cases hs:(MU f r k).2.r9
   ·rfl
   ·rw[mU a hs (Be k)]at h;exact h)
  have e:=b _ h;rw[Nat.mul_succ];show(f (MU f r k).2).2.rest.size+_<=_;omega
theorem QW {e:α->ByteArray} {es:List α->ByteArray} (c:∀a l,es (a::l)=e a++es l) {b:List α} {q:ByteArray} (h:r.rest=es b++q) (i:∀k (d:k<b.length) (r:Rd) q,r.rest=e b[k]++q->f r=(b[k],⟨q,r.r9⟩)) (k:Nat) (d:k<=b.length):MU f r k=(b.take k,⟨es (b.drop k)++q,r.r9⟩):=by
 induction k with
 |zero=>
  cases r
  simp only at h;simp[MU,h]
 |succ k j=>
  have g:=i k (by omega) ⟨es (b.drop k)++q,r.r9⟩ (es (b.drop (k+1))++q) (by show es (b.drop k)++q=_;rw[Ra (by omega),c,Ob]);rw[MU,j (by omega),g,La (by omega)]
end
def rH (s:ByteArray):Nat->Nat->Option (List Nat)
 |0,_=>some []
 |b+1,p=>if p<s.size then(if Utf8.decode s p=(65533,1) then none else(rH s b (p+(Utf8.decode s p).2)).map ((Utf8.decode s p).1 :: ·)) else some []
def ctl (r:Nat):Bool:=decide (r<32) ||(decide (127<=r) &&decide (r<=159))
def gu (l:List Nat):Nat:=if 128<l.length then 43 else if l.any ctl=true then 44 else 0
def bP (s:ByteArray):Nat:=match rH s s.size 0 with
 |none=>42
 |some l=>gu l
def xY (s:ByteArray) (p:Nat) (a:List Nat):Prop:=a.length<=p/\∃b,s.size<=p+b/\rH s s.size 0=(rH s b p).map (a++·)
theorem xY.start (s:ByteArray):xY s 0 []:=⟨Da _,s.size,by omega,by simp⟩
theorem dV (s:ByteArray) (p:Nat):1<=(Utf8.decode s p).2:=by
 simp only[Utf8.decode];repeat' split
 all_goals simp_all
theorem xY.step {s:ByteArray} {p:Nat} {a:List Nat} (h:xY s p a) (d:p<s.size) (c:Utf8.decode s p≠(65533,1)):xY s (p+(Utf8.decode s p).2) (a++[(Utf8.decode s p).1]):=by
 obtain⟨i,b,g,e⟩:=h;have f:=dV s p;cases b with
 |zero=>omega
 |succ b=>
  refine⟨by simp;omega,b,by omega,?_⟩;rw[e,rH,Ga d,Ca c];cases rH s b (p+(Utf8.decode s p).2)<;>simp
theorem xY.bad {s:ByteArray} {p:Nat} {a:List Nat} (h:xY s p a) (d:p<s.size) (c:Utf8.decode s p=(65533,1)):bP s=42:=by
 obtain⟨g,b,f,e⟩:=h;cases b with
 |zero=>omega
 |succ b=>
  rw[rH,Ga d,Ga c]at e;rw[bP,e];rfl
theorem xY.done {s:ByteArray} {p:Nat} {a:List Nat} (h:xY s p a) (f:s.size<=p):bP s=gu a:=by
 obtain⟨d,b,c,e⟩:=h;have:rH s b p=some []:=by
  cases b with
  |zero=>rfl
  |succ b=>rw[rH,Ca (by omega)]
 rw[this]at e;rw[bP,e];simp
theorem UX (s:ByteArray) (p:Nat):Utf8.decode (s.extract p s.size) 0=Utf8.decode s p:=Lib.tail_decode s p 0
def KF (t:ByteArray):Nat×Nat:=if Utf8.decode t 0=(65533,1) then(0,0) else Utf8.decode t 0
def pB (t:ByteArray) (k:Nat):Nat:=(t.get! k).toNat
theorem aPf (t:ByteArray) (k:Nat):pB t k<256:=(t.get! k).toNat_lt
theorem rT (t:ByteArray) (k:Nat) (h:k<t.size):t[k].toNat=pB t k:=by
 have:=get_at t k h;rw[Ug]at this;rw[pB,this]
def xW (a b c d:Nat) (e f g:Bool):Nat×Nat:=
 if a<128 then(a,1)
 else if (a / 32==6&&e)=true then(if 128<=a % 32*64+b % 64 then(a % 32*64+b % 64,2) else(65533,1))
 else if (a / 16==14&&e&&f)=true then(if (decide (2048<=a % 16*4096+b % 64*64+c % 64) &&Utf8.valid ((a % 16*4096+b % 64*64+c % 64:Nat):Int))=true then(a % 16*4096+b % 64*64+c % 64,3) else(65533,1))
 else if (a / 8==30&&e&&f&&g)=true then(if (decide (65536<=a % 8*262144+b % 64*4096+c % 64*64+d % 64) &&Utf8.valid ((a % 8*262144+b % 64*4096+c % 64*64+d % 64:Nat):Int))=true then(a % 8*262144+b % 64*4096+c % 64*64+d % 64,4) else(65533,1))
 else(65533,1)
def aEy (t:ByteArray) (k:Nat):Bool:=decide (k<t.size) &&pB t k / 64==2
theorem kM (t:ByteArray) (k:Nat):aEy t k=true ↔ k<t.size/\pB t k / 64=2:=by simp[aEy]
theorem uQ (t:ByteArray) (p:Nat):Utf8.decode t p=xW (pB t p) (pB t (p+1)) (pB t (p+2)) (pB t (p+3)) (aEy t (p+1)) (aEy t (p+2)) (aEy t (p+3)):=rfl
def aOi (v:Nat):Bool:=decide (v<=1114111/\¬(55296<=v/\v<=57343))
abbrev okR (v:Nat):Prop:=aOi v=true
theorem aOh {v:Nat} (h:v<=1114111/\¬(55296<=v/\v<=57343)):okR v:=Rb h
theorem ak {v:Nat} (h:okR v):v<=1114111/\¬(55296<=v/\v<=57343):=Qe h
theorem XU (v:Nat):Utf8.valid (v:Int)=decide (okR v):=by
 unfold Utf8.valid okR aOi;rw[Nb];simp;omega
theorem gk {a b d e:Nat} {c f g:Bool} (h:a / 32=6):xW a b d e c f g=if c=true/\128<=a % 32*64+b % 64 then(a % 32*64+b % 64,2) else(65533,1):=by
 have i:(a / 16==14)=false:=by simp;omega
 have j:(a / 8==30)=false:=by simp;omega
 unfold xW;rw[Ca (by omega),h,i,j];cases c<;>simp
theorem NY {a b c g:Nat} {d f i:Bool} (h:a / 16=14):
 xW a b c g d f i=if d=true/\f=true/\2048<=(a % 16*64+b % 64)*64+c % 64/\okR ((a % 16*64+b % 64)*64+c % 64) then((a % 16*64+b % 64)*64+c % 64,3) else(65533,1):=by
 have j:(a / 32==6)=false:=by simp;omega
 have k:(a / 8==30)=false:=by simp;omega
 have e:a % 16*4096+b % 64*64+c % 64=(a % 16*64+b % 64)*64+c % 64:=by omega
 unfold xW;rw[Ca (by omega),j,h,k,e,XU];cases d<;>cases f<;>simp[okR]
theorem US {a b c d:Nat} {f g i:Bool} (h:a / 8=30):
 xW a b c d f g i=if f=true/\g=true/\i=true/\65536<=((a % 8*64+b % 64)*64+c % 64)*64+d % 64/\okR (((a % 8*64+b % 64)*64+c % 64)*64+d % 64) then(((a % 8*64+b % 64)*64+c % 64)*64+d % 64,4) else(65533,1):=by
 have j:(a / 32==6)=false:=by simp;omega
 have k:(a / 16==14)=false:=by simp;omega
 have e:a % 8*262144+b % 64*4096+c % 64*64+d % 64=((a % 8*64+b % 64)*64+c % 64)*64+d % 64:=by omega
 unfold xW;rw[Ca (by omega),j,k,h,e];simp only[XU];cases f<;>cases g<;>cases i<;>simp[okR]
theorem gj {a b c d:Nat} {e f g:Bool} (h:a<128):xW a b c d e f g=(a,1):=by unfold xW;rw[Ga h]
theorem UT {a e f g:Nat} {h i j:Bool} (k:128<=a) (b:a / 32≠6) (c:a / 16≠14) (d:a / 8≠30):xW a e f g h i j=(65533,1):=by
 have b:(a / 32==6)=false:=by simp[b]
 have c:(a / 16==14)=false:=by simp[c]
 have d:(a / 8==30)=false:=by simp[d]
 unfold xW;rw[Ca (by omega),b,c,d];simp
theorem UU {a e f g:Nat} {b c d:Bool}:xW a e f g b c d=(65533,1)\/((xW a e f g b c d).1<=1114111/\((xW a e f g b c d).2=1\/(xW a e f g b c d).2=2/\b=true\/(xW a e f g b c d).2=3/\c=true\/(xW a e f g b c d).2=4/\d=true)):=by
 by_cases l:a<128
 ·rw[gj l];right;exact⟨by simp;omega,Ba rfl⟩
 by_cases i:a / 32=6
 ·rw[gk i];split
  ·rename_i h;right;exact⟨by simp;omega,Ea (Ba ⟨rfl,h.1⟩)⟩
  ·exact Ba rfl
 by_cases j:a / 16=14
 ·rw[NY j];split
  ·rename_i h;right;exact⟨(ak h.2.2.2).1,Ea (Ea (Ba ⟨rfl,h.2.1⟩))⟩
  ·exact Ba rfl
 by_cases k:a / 8=30
 ·rw[US k];split
  ·rename_i h;right;exact⟨(ak h.2.2.2.2).1,Ea (Ea (Ea ⟨rfl,h.2.2.1⟩))⟩
  ·exact Ba rfl
 ·rw[UT (by omega) i j k];exact Ba rfl
theorem JR (s:ByteArray) (p:Nat) (b:p<s.size) (h:Utf8.decode s p≠(65533,1)):p+(Utf8.decode s p).2<=s.size:=by
 rw[uQ]at h |-
 rcases UU with a|⟨_,a|⟨e,a⟩|⟨e,a⟩|⟨e,a⟩⟩
 ·exact absurd a h
 ·rw[a];omega
 ·rw[e];have:=((kM _ _).1 a).1;omega
 ·rw[e];have:=((kM _ _).1 a).1;omega
 ·rw[e];have:=((kM _ _).1 a).1;omega
theorem yW (s:ByteArray) (p:Nat):(Utf8.decode s p).1<=1114111/\(Utf8.decode s p).2<=4:=by
 rw[uQ];rcases UU with a|⟨h,a|⟨e,a⟩|⟨e,a⟩|⟨e,a⟩⟩
 ·rw[a];exact⟨by simp,by simp⟩
 ·exact⟨h,by omega⟩
 ·exact⟨h,by omega⟩
 ·exact⟨h,by omega⟩
 ·exact⟨h,by omega⟩
theorem aKv (t:ByteArray) (h:pB t 0<128):KF t=(pB t 0,1):=by
 rw[KF,uQ,gj h,Ca];simp only[Hb,Ub];omega
theorem ru {t:ByteArray} {C D:Prop} [Decidable C] [Decidable D] {v n:Nat} (h:Utf8.decode t 0=if C then(v,n) else(65533,1)) (b:n≠1) (a:C ↔ D):KF t=if D then(v,n) else(0,0):=by
 unfold KF;rw[h];by_cases c:C
 ·rw[Ga c,Ga (a.1 c),Ca (by simp;exact fun _=>b)]
 ·rw[Ca c,Ca (fun h=>c (a.2 h)),Ga rfl]
theorem aKw (t:ByteArray) (h:pB t 0 / 32=6):
 KF t=if 2<=t.size/\pB t 1 / 64=2/\128<=pB t 0 % 32*64+pB t 1 % 64 then(pB t 0 % 32*64+pB t 1 % 64,2) else(0,0):=by
 refine ru ((uQ t 0).trans (gk h)) (by omega) ?_;rw[Oa,kM];constructor
 ·rintro⟨⟨a,b⟩,c⟩;exact⟨a,b,c⟩
 ·rintro⟨a,b,c⟩;exact⟨⟨a,b⟩,c⟩
theorem aBi (t:ByteArray) (h:pB t 0 / 16=14):
 KF t=if 3<=t.size/\pB t 1 / 64=2/\pB t 2 / 64=2/\2048<=(pB t 0 % 16*64+pB t 1 % 64)*64+pB t 2 % 64/\okR ((pB t 0 % 16*64+pB t 1 % 64)*64+pB t 2 % 64) then((pB t 0 % 16*64+pB t 1 % 64)*64+pB t 2 % 64,3) else(0,0):=by
 refine ru ((uQ t 0).trans (NY h)) (by omega) ?_;rw[Oa,Oa,kM,kM];constructor
 ·rintro⟨⟨_,b⟩,⟨a,c⟩,d⟩;exact⟨a,b,c,d⟩
 ·rintro⟨a,b,c,d⟩;exact⟨⟨by omega,b⟩,⟨a,c⟩,d⟩
theorem aFx (t:ByteArray) (h:pB t 0 / 8=30):
 KF t=if 4<=t.size/\pB t 1 / 64=2/\pB t 2 / 64=2/\pB t 3 / 64=2/\65536<=((pB t 0 % 8*64+pB t 1 % 64)*64+pB t 2 % 64)*64+pB t 3 % 64/\okR (((pB t 0 % 8*64+pB t 1 % 64)*64+pB t 2 % 64)*64+pB t 3 % 64) then(((pB t 0 % 8*64+pB t 1 % 64)*64+pB t 2 % 64)*64+pB t 3 % 64,4) else(0,0):=by
 refine ru ((uQ t 0).trans (US h)) (by omega) ?_;rw[Oa,Oa,Oa,kM,kM,kM];constructor
 ·rintro⟨⟨_,b⟩,⟨_,c⟩,⟨a,d⟩,e⟩;exact⟨a,b,c,d,e⟩
 ·rintro⟨a,b,c,d,e⟩;exact⟨⟨by omega,b⟩,⟨by omega,c⟩,⟨a,d⟩,e⟩
theorem aFy (t:ByteArray) (a:128<=pB t 0) (b:pB t 0 / 32≠6) (c:pB t 0 / 16≠14) (d:pB t 0 / 8≠30):KF t=(0,0):=by
 rw[KF,uQ,UT a b c d,Ga rfl]
theorem aOa (s:ByteArray) (p:Nat):KF (s.extract p s.size)=if Utf8.decode s p=(65533,1) then(0,0) else Utf8.decode s p:=by rw[KF,UX]
structure TV where
 t:eA
 a1:Option Addr
 c1:Nat
 a2:Option Addr
 c2:Nat
def xH (a:List TV):List Value:=a.flatMap fun y=>[.string y.t.name,.int .i64 y.t.l9,.slice y.a1 y.t.m9.length y.c1,.slice y.a2 y.t.s9.length y.c2]
theorem ZB (a b:List TV):xH (a++b)=xH a++xH b:=by simp[xH]
def aEc (w:World) (b:Nat) (T:Nat->Nat) (a:List TV):Prop:=
 ∀i (h:i<a.length),oD w b T (2*i+1) a[i].a1 a[i].t.m9/\oD w b T (2*i+2) a[i].a2 a[i].t.s9
def pO (w:World) (b:Nat) (e:TypeId) (v:Value) (n:Nat) (c:List eA):Prop:=
 ∃T a,w.ownsRow b e 4 v n (xH a)/\a.map (·.t)=c/\(∀g,v.ownBlock=some g->T g=0)/\aEc w b T a
theorem pO.nil (w:World) (b:Nat) (e:TypeId):pO w b e (.slice none 0 0) 0 []:=
 ⟨fun _=>0,[],World.ownsRow_nil _ _ _ _,rfl,fun _ _=>rfl,fun i h=>absurd h (by simp)⟩
theorem pO.row {w:World} {b:Nat} {e:TypeId} {v:Value} {n:Nat} {i:List eA} (h:pO w b e v n i):∃a c,v=.slice a n c:=by
 obtain⟨_,_,h,_⟩:=h;rcases h.2 with⟨rfl,rfl⟩|⟨g,d,f,rfl,_⟩
 ·exact⟨none,0,rfl⟩
 ·exact⟨_,_,rfl⟩
theorem pO.turn {w f:World} {S:Nat->Prop} {b:Nat} {e:TypeId} {v:Value} {n:Nat} {q:List eA} (h:pO w b e v n q) (p:gA S w f) (l:∀g,S g->g<b):pO f b e v n q:=by
 obtain⟨T,t,j,r,s,k⟩:=h;refine⟨T,t,p.row j (fun g a e=>by have:=(j.lt g a).1;have:=l g e;omega),r,s,fun i m=>?_⟩;have o:∀g,g<w.heap.size->b<=g->f.heap[g]?=w.heap[g]?:=fun g a c=>p.block g a (fun e=>by have:=l g e;omega);exact⟨(k i m).1.keep fun g a c d=>⟨o g a c,d⟩,(k i m).2.keep fun g a c d=>⟨o g a c,d⟩⟩
theorem pO.snoc {wr w4 p:World} {b M d q k:Nat} {e:TypeId} {v:Value} {T:Nat->Nat} {ys:List TV} {U:List eA} {t:eA} {z C:Option Addr} {Q R:Nat}
 (y:p.ownsRow b e 4 (.slice (some ⟨d,0,none⟩) (k+1) q) (k+1) (xH ys++[.string t.name,.int .i64 t.l9,.slice z t.m9.length Q,.slice C t.s9.length R]))
 (O:ys.map (·.t)=U) (N:ys.length=k) (L:∀g,v.ownBlock=some g->T g=0) (hp:aEc wr b T ys) (hb:b<=wr.heap.size) (Y:wr.heap.size<=M)
 (u:∀g,g<wr.heap.size->b<=g->v.ownBlock≠some g->p.heap[g]?=wr.heap[g]?) (J:∀g,wr.heap.size<=g->g<w4.heap.size->p.heap[g]?=w4.heap[g]?)
 (V:aD w4 wr.heap.size z t.m9) (E:∀g o,z=some ⟨g,o,none⟩->g<M) (W:aD w4 M C t.s9)
 (H:(v.ownBlock=some d/\d<wr.heap.size)\/w4.heap.size<=d) (X:wr.heap.size<=w4.heap.size) (Z:M<=w4.heap.size):pO p b e (.slice (some ⟨d,0,none⟩) (k+1) q) (k+1) (U++[t]):=by
 have l:∀{B n:Nat} {A:Nat->Nat} {a:Option Addr} {P:List fA},wr.heap.size<=B->aD w4 B a P->(∀g o,a=some ⟨g,o,none⟩->B<=g->g<w4.heap.size->A g=n)->oD p b A n a P:=by
  intro B n A a P hB h r;rcases h with h|⟨g,o,D,ty,rfl,F,f,G⟩
  ·exact Ba h
  ·have x:=aA f;have w:=J g (by omega) x;have hc:∀j,p.cell? ⟨g,j,none⟩=w4.cell? ⟨g,j,none⟩:=fun j=>World.cell?_of_block w;exact Ea ⟨g,o,D,ty,rfl,by omega,r g o rfl F x,w.trans f,fun i I=>by simp only[hc];exact G i I⟩
 refine⟨fun g=>if g<wr.heap.size then T g else if g<M then 2*k+1 else if g<w4.heap.size then 2*k+2 else 0,ys++[⟨t,z,Q,C,R⟩],?_,?_,?_,?_⟩
 ·rw[ZB];exact y
 ·rw[Qd,O];rfl
 ·intro g c;simp only[Value.ownBlock,Ja]at c;subst c;rcases H with⟨h,K⟩|h
  ·simp only[Ga K];exact L _ h
  ·simp only[Ca (show ¬d<wr.heap.size by omega),Ca (show ¬d<M by omega),Ca (show ¬d<w4.heap.size by omega)]
 ·intro i I;by_cases s:i<ys.length
  ·rw[Re s];obtain⟨p1,p2⟩:=hp i s;refine⟨p1.keep fun g c m r=>⟨u g c m (fun e=>by have:=L g e;omega),by simp only[Ga c];exact r⟩,p2.keep fun g c m r=>⟨u g c m (fun e=>by have:=L g e;omega),by simp only[Ga c];exact r⟩⟩
  ·have e:i=k:=by simp at I;omega
   subst e;rw[Nf (by omega)];simp only[N,Vg,Xe];refine⟨l (Da _) V fun g o S c _=>?_,l Y W fun g o S c K=>?_⟩
   ·simp only[Ca (show ¬g<wr.heap.size by omega),Ga (E g o S)]
   ·simp only[Ca (show ¬g<wr.heap.size by omega),Ca (show ¬g<M by omega),Ga K]
theorem pO.own {w:World} {b:Nat} {e:TypeId} {a:Option Addr} {n cap:Nat} {o:List eA} (h:pO w b e (.slice a n cap) n o) (K:o.length=n):uC w b a o:=by
 obtain⟨T,c,E,u,F,v⟩:=h;have M:c.length=n:=by rw[<-K,<-u,Ua]
 rcases E.2 with⟨_,O⟩|⟨g,s,f,p,G,y,_,_,L,q⟩
 ·exact Ba (Fb.1 (by omega))
 ·simp only[Value.slice.injEq]at p;have H:=F g (by rw[p.1];rfl);have I:∀(l:List TV) i (k:i<l.length),(xH l)[i*4]?=some (.string l[i].t.name)/\(xH l)[i*4+1]?=some (.int .i64 l[i].t.l9)/\(xH l)[i*4+2]?=some (.slice l[i].a1 l[i].t.m9.length l[i].c1)/\(xH l)[i*4+3]?=some (.slice l[i].a2 l[i].t.s9.length l[i].c2):=by
   intro l;unfold xH;induction l with
   |nil=>intro i k;exact absurd k (by simp)
   |cons x r N=>
    intro i k;cases i with
    |zero=>simp
    |succ i=>
     have:=N i (by simpa using k);simp only[Yc,Hd,Jb,Vb];refine⟨?_,?_,?_,?_⟩
     ·rw[show(i+1)*4=i*4+1+1+1+1 by omega,Fa,Fa,Fa,Fa];exact this.1
     ·rw[show(i+1)*4+1=i*4+1+1+1+1+1 by omega,Fa,Fa,Fa,Fa];exact this.2.1
     ·rw[show(i+1)*4+2=i*4+2+1+1+1+1 by omega,Fa,Fa,Fa,Fa];exact this.2.2.1
     ·rw[show(i+1)*4+3=i*4+3+1+1+1+1 by omega,Fa,Fa,Fa,Fa];exact this.2.2.2
  have m:∀j,j<n*4->w.cell? ⟨g,j,none⟩=(xH c)[j]?:=fun j J=>by
   rw[lA.cell (show lA w g f e from y) j,<-Sd,<-q,Eb J]
  refine Ea ⟨g,0,f,e,T,p.1,G,y,H,fun i k=>?_⟩;have d:i<c.length:=by omega
  have z:o[i]=c[i].t:=by simp only[<-u,List.getElem_map]
  obtain⟨A,B,C,D⟩:=I c i d;rw[z];refine⟨c[i].a1,c[i].c1,c[i].a2,c[i].c2,?_,?_,?_,?_,(v i d).1,(v i d).2⟩
  ·rw[Oa,m _ (by omega)];exact A
  ·rw[Oa,m _ (by omega)];exact B
  ·rw[Oa,m _ (by omega)];exact C
  ·rw[Oa,m _ (by omega)];exact D
def GL (w:World) (h:ByteArray) (t:eA) (e:Ending) (a:World):Prop:=
 ∃M b d c f,e=.returned (.agg #[.string h,.int .i64 t.l9,.slice b t.m9.length d,.slice c t.s9.length f])/\w.heap.size<=M/\aD a w.heap.size b t.m9/\(∀g o,b=some ⟨g,o,none⟩->g<M)/\aD a M c t.s9/\M<=a.heap.size/\Below w.heap.size w a
def flatK (a:List fA):List Value:=a.flatMap fun x=>[.string x.s,.int .i64 x.n]
def YC (w:World) (h:ByteArray) (t:eA) (e:Ending) (a:World):Prop:=
 ∃M b f c d,e=.returned (.agg #[.string h,.int .i64 t.l9,.slice b t.m9.length f,.slice c t.s9.length d])/\w.heap.size<=M/\aD a w.heap.size b t.m9/\(∀g o,b=some ⟨g,o,none⟩->g<M)/\a.ownsRow M 113 2 (.slice c t.s9.length d) t.s9.length (flatK t.s9)/\M<=a.heap.size/\Below w.heap.size w a
theorem YC.tel {w:World} {a:ByteArray} {t:eA} {e:Ending} {b:World} (h:YC w a t e b):GL w a t e b:=by
 obtain⟨M,c,f,d,g,i,j,k,l,m,n⟩:=h;exact⟨M,c,f,d,g,i,j,k,l,pC m,n⟩
theorem fV (a b:List fA):flatK (a++b)=flatK a++flatK b:=by simp[flatK]
theorem CS (a:List fA):(flatK a).length=a.length*2:=by
 induction a with
 |nil=>rfl
 |cons x r b=>simp only[flatK,Yc,Qa,Sa,Kc]at b |-;omega
theorem OU (b:List fA):∀u∈flatK b,u.oneCell'=true:=by
 intro u a;simp only[flatK,Eg]at a;obtain⟨x,_,a⟩:=a;simp only[Cb,List.mem_nil_iff,or_false]at a;rcases a with rfl|rfl<;>rfl
theorem VG:∀(a:List fA) (j:Nat) (u:Value),(flatK a)[j]?=some u->∃i,∃h:i<a.length,(j=i*2/\u=.string a[i].s)\/(j=i*2+1/\u=.int .i64 a[i].n)
 |[],j,u,h=>by simp[flatK]at h
 |x::r,0,u,h=>⟨0,by simp,Ba ⟨rfl,by simpa[flatK]using h.symm⟩⟩
 |x::r,1,u,h=>⟨0,by simp,Ea ⟨rfl,by simpa[flatK]using h.symm⟩⟩
 |x::r,j+2,u,h=>by
  have b:(flatK r)[j]?=some u:=by simpa[flatK]using h
  obtain⟨i,c,q⟩:=VG r j u b;refine⟨i+1,by simpa using c,?_⟩;rcases q with⟨e,q⟩|⟨e,q⟩
  ·exact Ba ⟨by omega,by simpa using q⟩
  ·exact Ea ⟨by omega,by simpa using q⟩
theorem BE {w:World} {b o:Nat} {c:List fA} (h:∀i (d:i<c.length),w.cell? ⟨b,o+i*2,none⟩=some (.string c[i].s)/\w.cell? ⟨b,o+i*2+1,none⟩=some (.int .i64 c[i].n)):
 ∀j u,(flatK c)[j]?=some u->w.cell? ((⟨b,o,none⟩:Addr).add j)=some u:=by
 intro j u e;have a:(⟨b,o,none⟩:Addr).add j=⟨b,o+j,none⟩:=by unfold Addr.add;split<;>simp_all
 rw[a];obtain⟨i,d,q⟩:=VG c j u e;rcases q with⟨rfl,rfl⟩|⟨rfl,rfl⟩
 ·exact(h i d).1
 ·exact(h i d).2
theorem ji:(prog.info? 122).map (fun i=>(i.zero,i.size,i.bytes))=some (some (.agg #[.int .i64 0,.string ByteArray.empty,.string ByteArray.empty,.int .i64 0]),4,48):=by kernel_rfl
def CU (a:List dE):List Value:=a.flatMap fun x=>[.int .i64 x.kind,.string x.n9,.string x.text,.int .i64 x.num]
theorem sF.turn {w f:World} {B:Nat} {S:Nat->Prop} {a:Option Addr} {m:List dE} (h:sF w B a m) (r:gA S w f) (o:∀g,S g->g<B):sF f B a m:=by
 rcases h with h|⟨b,s,c,t,rfl,n,k,d⟩
 ·exact Ba h
 ·have l:=r.block b (aA k) (fun e=>by have:=o b e;omega);have p:∀j,f.cell? ⟨b,j,none⟩=w.cell? ⟨b,j,none⟩:=fun j=>World.cell?_of_block l;exact Ea ⟨b,s,c,t,rfl,n,l.trans k,fun i q=>by simp only[p];exact d i q⟩
