import Derived.Test.YtabgbmfcbobamaaGreatDoorJ04
import Derived.Deep.OwnRows
import Derived.Shelf.SlicesE.Equal
set_option maxHeartbeats 1000000
namespace Go.Proofs.YtabgbmfcbobamaaGreatDoor
open Go.RowKit Tryz
structure gA (S:Nat→Prop) (w w':World):Prop where
 os:w'.os=w.os
 tape:w'.tape=w.tape
 output:w'.output=w.output
 size:w.heap.size≤w'.heap.size
 block:∀k,k<w.heap.size→¬S k→w'.heap[k]?=w.heap[k]?
theorem gA.refl (S:Nat->Prop) (w:World):gA S w w:=⟨rfl,rfl,rfl,Ka _,fun _ _ _=>rfl⟩
theorem gA.trans {S:Nat->Prop} {a b c:World} (h:gA S a b) (k:gA (fun i=>S i\/a.heap.size<=i) b c):gA S a c:=
 ⟨k.os.trans h.os,k.tape.trans h.tape,k.output.trans h.output,Ra h.size k.size,fun i e f=>(k.block i (Ib e h.size) (fun d=>by rcases d with d|d;exact f d;omega)).trans (h.block i e f)⟩
theorem gA.trans' {S:Nat->Prop} {a b c:World} (h:gA S a b) (k:gA S b c):gA S a c:=
 ⟨k.os.trans h.os,k.tape.trans h.tape,k.output.trans h.output,Ra h.size k.size,fun i d e=>(k.block i (Ib d h.size) e).trans (h.block i d e)⟩
theorem gA.mono {S S':Nat->Prop} {a b:World} (h:gA S a b) (f:∀i,i<a.heap.size->S i->S' i):gA S' a b:=
 ⟨h.os,h.tape,h.output,h.size,fun i c e=>h.block i c (fun d=>e (f i c d))⟩
theorem gA.of {S:Nat->Prop} {a b:World} (h:Below a.heap.size a b):gA S a b:=⟨h.os,h.tape,h.output,h.size,fun k c _=>h.block k c⟩
theorem gA.but {g:Nat} {a b:World} (h:dB g a b):gA (·=g) a b:=⟨h.os,h.tape,h.output,h.size,fun k c d=>h.block k c d⟩
theorem gA.grown {r:Option Nat} {a b:World} (h:a.grownBy b r):gA (fun k=>r=some k) a b:=⟨h.os,h.tape,h.output,h.size,fun k c d=>h.block k c (fun e=>d e.symm)⟩
theorem gA.below {S:Nat->Prop} {B:Nat} {a b:World} (h:gA S a b) (e:B<=a.heap.size) (d:∀k,k<B->¬S k):Below B a b:=
 ⟨h.os,h.tape,h.output,h.size,fun k c=>h.block k (by omega) (d k c)⟩
theorem gA.drew {S:Nat->Prop} {a b:World} (h:gA S a b):gA S a b.drew:=⟨h.os,h.tape,h.output,h.size,h.block⟩
theorem gA.setCell {S:Nat->Prop} {a b:World} (h:gA S a b) {g:Nat} (c:S g\/a.heap.size<=g) (o:Nat) (v:Value):gA S a (b.setCell ⟨g,o,none⟩ v):=
 h.trans ((gA.but ((dB.refl g b).setCell o v)).mono fun i _ e=>by subst e;exact c)
theorem gA.blk {S:Nat->Prop} {a b:World} (h:gA S a b) {g:Nat} {c:Array Value} {t:TypeId} (d:eA a g c t) (e:¬S g):eA b g c t:=(h.block g (aA d) e).trans d
theorem gA.row {S:Nat->Prop} {a b:World} (h:gA S a b) {B:Nat} {e:TypeId} {size:Nat} {v:Value} {n:Nat} {j:List Value} (i:a.ownsRow B e size v n j) (m:∀g,v.ownBlock=some g->¬S g):b.ownsRow B e size v n j:=by
 refine⟨i.1,?_⟩;rcases i.2 with k|⟨g,c,d,rfl,l,f,r⟩
 ·exact Ca k
 ·exact Ja ⟨g,c,d,rfl,l,(h.block g (aA f) (m g rfl)).trans f,r⟩
theorem gA.map {H:Type} {S:Nat->Prop} {a b:World} (h:gA S a b) {P:Program} {k:TypeId} {R:Value->Option (DataW H×List MemPlace)} {m n:Nat} {D:DataW H} (e:a.ownsMap P k R m n D) (i:¬S m):b.ownsMap P k R m n D:=by
 have d:=e.lt;obtain⟨f,c,g,r⟩:=e;exact⟨f,c,(h.block m d i).trans g,r⟩
def RU (w:World) (h:ByteArray) (t:dA) (e:Ending) (a:World):Prop:=
 ∃M b d c f,e=.returned (.agg #[.string h,.int .i64 t.l9,.slice b t.m9.length d,.slice c t.s9.length f])/\w.heap.size<=M/\dC a w.heap.size b t.m9/\(∀g o,b=some ⟨g,o,none⟩->g<M)/\dC a M c t.s9/\M<=a.heap.size/\Below w.heap.size w a
def flatK (a:List lA):List Value:=a.flatMap fun x=>[.string x.s,.int .i64 x.n]
def RW (w:World) (h:ByteArray) (t:dA) (e:Ending) (a:World):Prop:=
 ∃M b f c d,e=.returned (.agg #[.string h,.int .i64 t.l9,.slice b t.m9.length f,.slice c t.s9.length d])/\w.heap.size<=M/\dC a w.heap.size b t.m9/\(∀g o,b=some ⟨g,o,none⟩->g<M)/\a.ownsRow M 109 2 (.slice c t.s9.length d) t.s9.length (flatK t.s9)/\M<=a.heap.size/\Below w.heap.size w a
theorem RW.tel {w:World} {a:ByteArray} {t:dA} {e:Ending} {b:World} (h:RW w a t e b):RU w a t e b:=by
 obtain⟨M,c,f,d,g,i,j,k,l,m,n⟩:=h;exact⟨M,c,f,d,g,i,j,k,l,vC m,n⟩
theorem nT (a b:List lA):flatK (a++b)=flatK a++flatK b:=by simp[flatK]
theorem wO (a:List lA):(flatK a).length=a.length*2:=by
 induction a with
 |nil=>rfl
 |cons x r b=>simp only[flatK,Sc,Za,Jb,Pd]at b |-;omega
theorem oT (b:List lA):∀u∈flatK b,u.oneCell'=true:=by
 intro u a;simp only[flatK,Uf]at a;obtain⟨x,_,a⟩:=a;simp only[Ab,List.mem_nil_iff,Hf]at a;rcases a with rfl|rfl<;>rfl
theorem PG:∀(a:List lA) (j:Nat) (u:Value),(flatK a)[j]?=some u->∃i,∃h:i<a.length,(j=i*2/\u=.string a[i].s)\/(j=i*2+1/\u=.int .i64 a[i].n)
 |[],j,u,h=>by simp[flatK]at h
 |x::r,0,u,h=>⟨0,by simp,Ca ⟨rfl,by simpa[flatK]using h.symm⟩⟩
 |x::r,1,u,h=>⟨0,by simp,Ja ⟨rfl,by simpa[flatK]using h.symm⟩⟩
 |x::r,j+2,u,h=>by
  have b:(flatK r)[j]?=some u:=by simpa[flatK]using h
  obtain⟨i,c,q⟩:=PG r j u b;refine⟨i+1,by simpa using c,?_⟩;rcases q with⟨e,q⟩|⟨e,q⟩
  ·exact Ca ⟨by omega,by simpa using q⟩
  ·exact Ja ⟨by omega,by simpa using q⟩
theorem cQ {w:World} {b o:Nat} {c:List lA} (h:∀i (d:i<c.length),w.cell? ⟨b,o+i*2,none⟩=some (.string c[i].s)/\w.cell? ⟨b,o+i*2+1,none⟩=some (.int .i64 c[i].n)):
 ∀j u,(flatK c)[j]?=some u->w.cell? ((⟨b,o,none⟩:Addr).add j)=some u:=by
 intro j u e;have a:(⟨b,o,none⟩:Addr).add j=⟨b,o+j,none⟩:=by unfold Addr.add;split<;>simp_all
 rw[a];obtain⟨i,d,q⟩:=PG c j u e;rcases q with⟨rfl,rfl⟩|⟨rfl,rfl⟩
 ·exact(h i d).1
 ·exact(h i d).2
def wR (x y:mA):Bool:=x.name.toList==y.name.toList&&x.value.toList==y.value.toList
def vE:List mA->List mA->Bool
 |[],[]=>true
 |x::r,y::q=>wR x y&&vE r q
 |_,_=>false
theorem ef (x y:mA):wR x y=true ↔ x=y:=by
 unfold wR;rw[Sa,Eg,Eg];constructor
 ·rintro⟨a,b⟩;cases x;cases y
  simp only[mA.mk.injEq];exact⟨toList_inj a,toList_inj b⟩
 ·rintro rfl;exact⟨rfl,rfl⟩
theorem tZ:∀(a b:List mA),vE a b=true ↔ a=b
 |[],[]=>by simp[vE]
 |[],_::_=>by simp[vE]
 |_::_,[]=>by simp[vE]
 |x::r,y::q=>by
  rw[vE,Sa,ef,tZ r q];simp
theorem gk {a b:List mA} (h:a.length≠b.length):vE a b=false:=by
 rw[Yc];intro c;exact h (by rw[(tZ a b).1 c])
theorem bj (a b:List mA) (k:Nat) (c:k<a.length) (d:k<b.length):vE (a.drop k) (b.drop k)=(wR a[k] b[k] &&vE (a.drop (k+1)) (b.drop (k+1))):=by
 rw[Kb c,Kb d,vE]
def iO (a:List mA):Bool:=decide ((pA a).2.1=0) &&vE (pA a).1 a
def cC:List mA->ByteArray
 |[]=>ByteArray.empty
 |l::r=>oK l.name++nD l.value++cC r
def nI (a:List mA):ByteArray:=fA 1 (a.length:Nat)++cC a
def gG (a:List mA):ByteArray:=if iO a=true then nI a else ByteArray.empty
theorem wL:∀(a b:List mA),cC (a++b)=cC a++cC b
 |[],b=>by simp[cC]
 |l::r,b=>by
  show oK l.name++nD l.value++cC (r++b)=oK l.name++nD l.value++cC r++cC b;rw[wL r b,Gb (b:=cC r)]
theorem yZ (a:List mA) (k:Nat) (h:k<a.length):cC (a.take (k+1))=cC (a.take k)++(oK a[k].name++nD a[k].value):=by
 rw[Ma h,wL];simp[cC]
theorem JL (a:List mA):(pA a).1.length<=16:=by
 unfold pA;split
 ·simp
 ·rename_i b;split
  ·simp
  ·split
   ·simp
   ·split
    ·simp only;rw[nZ];have:=DQ a;omega
    ·simp
theorem SF {a:List mA} (h:(pA a).2.1=0):a.length<=16:=by
 unfold pA at h;split at h
 ·exact absurd h (by simp)
 ·omega
theorem JK {a:List mA} (h:iO a=true):a.length<=16:=by
 unfold iO at h;rw[Sa,Eb]at h;exact SF h.1
theorem ta {a:List mA} (h:iO a=true):pA a=(a,0,(pA a).2.2):=by
 unfold iO at h;rw[Sa,Eb]at h;have d:=(tZ _ _).1 h.2;have b:=h.1;generalize pA a=c at *;obtain⟨x,y,z⟩:=c;simp only at b d;rw[b,d]
theorem wK {x y:ByteArray} (h:x.data.toList=y.data.toList):x=y:=by
 cases x;cases y
 simp only[ByteArray.mk.injEq];exact Array.toList_inj.1 h
theorem xK (x y:ByteArray):(x++y).data.toList=x.data.toList++y.data.toList:=by simp
theorem vH (s:ByteArray) (i j:Nat):(s.extract i j).data.toList=(s.data.toList.take j).drop i:=by
 rw[Gf,Rf,List.extract_eq_drop_take']
theorem pH (s:ByteArray):s.size=s.data.toList.length:=by simp
structure Rd where
 rest:ByteArray
 r9:Bool
def uB (n:Nat) (r:Rd):ByteArray×Rd:=if r.rest.size<n then(ByteArray.empty,⟨r.rest,true⟩) else(r.rest.extract 0 n,⟨r.rest.extract n r.rest.size,r.r9⟩)
def zA (k:Nat) (r:Rd):Nat×Rd:=(jN (uB k r).1.data.toList,(uB k r).2)
def oA (k:Nat) (r:Rd):ByteArray×Rd:=uB (zA k r).1 (zA k r).2
theorem xG (n:Nat) (r:Rd):(uB n r).1.size<=n/\(uB n r).1.size<=r.rest.size/\(uB n r).2.rest.size<=r.rest.size:=by
 unfold uB;split
 ·exact⟨by simp,by simp,Ka _⟩
 ·refine⟨?_,?_,?_⟩<;>simp<;>omega
theorem sG {n:Nat} {r:Rd} (h:(uB n r).2.r9=false):r.r9=false/\(uB n r).1.size=n/\r.rest=(uB n r).1++(uB n r).2.rest:=by
 unfold uB at *;split at h
 ·exact absurd h (by simp)
 ·rename_i a;rw[Oa a];refine⟨h,by simp;omega,?_⟩;apply wK;rw[xK,vH,vH,We,pH,Wb,Ya]
theorem dT {n:Nat} {r:Rd} {t q:ByteArray} (h:r.rest=t++q) (a:t.size=n):uB n r=(t,⟨q,r.r9⟩):=by
 have d:r.rest.size=n+q.size:=by rw[h,Ga,a]
 unfold uB;rw[Oa (by omega)];have b:r.rest.extract 0 n=t:=by
  apply wK;rw[vH,We,h,xK,<-a,pH,Hg]
 have c:r.rest.extract n r.rest.size=q:=by
  apply wK;rw[vH,pH r.rest,Wb,h,xK,<-a,pH,List.drop_left]
 rw[b,c]
theorem MQ {k:Nat} {r:Rd} (h:(oA k r).2.r9=false):r.r9=false/\r.rest=fA k ((oA k r).1.size:Nat)++((oA k r).1++(oA k r).2.rest):=by
 obtain⟨f,g,i⟩:=sG (r:=(zA k r).2) h;obtain⟨b,c,d⟩:=sG (n:=k) (r:=r) f;refine⟨b,?_⟩;have e:fA k ((oA k r).1.size:Nat)=(uB k r).1:=by
  show fA k ((uB (zA k r).1 (zA k r).2).1.size:Nat)=_;rw[g];have:=jt (uB k r).1.data.toList k (by rw[<-pH];exact c);show fA k (jN (uB k r).1.data.toList:Nat)=_;rw[this]
 rw[e];have a:(uB k r).2.rest=(oA k r).1++(oA k r).2.rest:=i;rw[<-a];exact d
theorem qK {k:Nat} {r:Rd} {t q:ByteArray} (h:r.rest=fA k (t.size:Nat)++(t++q)) (d:t.size<256 ^ k):oA k r=(t,⟨q,r.r9⟩):=by
 have a:=dT (n:=k) h (iA k _);have b:(zA k r).1=t.size:=by
  show jN (uB k r).1.data.toList=_;rw[a];exact cI k t.size d
 have c:(zA k r).2=⟨t++q,r.r9⟩:=by
  show(uB k r).2=_;rw[a]
 rw[oA,b,c];exact dT rfl rfl
theorem yG (k:Nat) (r:Rd):(oA k r).1.size<=r.rest.size/\(oA k r).2.rest.size<=r.rest.size:=by
 have b:=xG k r;have a:=xG (zA k r).1 (zA k r).2;have e:(zA k r).2=(uB k r).2:=rfl;rw[e]at a;exact⟨by have:=a.2.1;unfold oA;rw[e];omega,by have:=a.2.2;unfold oA;rw[e];omega⟩
theorem nL (k:Nat) (r:Rd):(zA k r).1<256 ^ k:=by
 have h:=aZ (uB k r).1.data.toList;have a:=(xG k r).1;have b:256 ^ (uB k r).1.data.toList.length<=256 ^ k:=Zc (by omega) (by rw[<-pH];exact a);show jN (uB k r).1.data.toList<_;omega
theorem oE (x a:Int) (w:World):Calls prog 46 #[.int .i64 x,.int .i64 a] w fun e d=>e=.returned (.bool (xA x 0 a))/\d=w:=by
 by_cases b:0<=x
 ·by_cases c:x<=a
  ·have e:xA x 0 a=true:=by simp[xA,b,c]
   rw[e];go_enter func46,ntmps46;go_wp2;go_ret;exact⟨rfl,rfl⟩
  ·have e:xA x 0 a=false:=by simp[xA,c]
   rw[e];go_enter func46,ntmps46;go_wp2;go_ret;exact⟨rfl,rfl⟩
 ·have e:xA x 0 a=false:=by simp[xA,b]
  rw[e];go_enter func46,ntmps46;go_wp2;go_ret;exact⟨rfl,rfl⟩
theorem vP:(prog.info? 156).map (fun i=>(i.zero,i.size,i.bytes))=some (some (.agg #[.string ByteArray.empty,.string ByteArray.empty]),2,32):=by kernel_rfl
abbrev aAl:Inhabited mA:=⟨⟨ByteArray.empty,ByteArray.empty⟩⟩
theorem aEu:NeqAt prog 156 (fun x:mA=>.agg #[.string x.name,.string x.value]) wR:=by
 refine⟨fun x y w=>?_,GuardAt.agg _ (by kernel_rfl)⟩;have f:=underlying9;have e:=isAgg9;have g:=sizeOf9;have c:prog.underlying 156=some (.struct (prog.fieldsOf 156)):=by kernel_rfl
 have d:prog.stoodInHeld 156=false:=by kernel_rfl
 rw[run_neq_struct,show(10000:Nat)=9999+1 from rfl,run_equalIn_agg w 9999 156 _ _ c d];simp only[Program.fieldsOf,underlying156];go_simp;by_cases a:x.name.toList=y.name.toList<;>by_cases b:x.value.toList=y.value.toList<;>simp[wR,a,b]
theorem GL (s:ByteArray) (p n:Nat) (w:World) (o:s.size<=maxLen) (h:p+n<=s.size) (u:n<=7):
 Calls prog 141 #[.string s,.int .i64 p,.int .i64 n] w fun e q=>e=.returned (.int .i64 (jN (fI s p n):Nat))/\q=w:=by
 unfold maxLen at o;go_enter func141,ntmps141;go_wp2;go_loop [7,8] (fun v i=>∃(k V:Nat),k<=n/\i=.int .i64 k/\v=.int .i64 V/\Hid (V=jN (fI s p k))) (fun _ i=>n-(intOf i).toNat)
 case atStart=>exact⟨0,0,La _,rfl,rfl,rfl⟩
 case round=>
  obtain⟨k,V,t,rfl,rfl,a⟩:=hrel;have d:V<72057594037927936:=by
   have b:=aZ (fI s p k);rw[sL (by omega),<-a.out]at b;have f:256 ^ k<=256 ^ 7:=Zc (by omega) (by omega);omega
  by_cases m:k<n
  ·have g:V*256+255<9223372036854775807:=by
    have b:=aZ (fI s p k);rw[sL (by omega),<-a.out]at b;have f:256 ^ k<=256 ^ 6:=Zc (by omega) (by omega);omega
   have j:(0:Int)<=(p:Int)+(k:Int):=by omega
   have l:(p:Int)+(k:Int)<(s.size:Int):=by omega
   have c:p+k<s.size:=by omega
   have r:=s[p+k].toNat_lt;go_wp2;exact⟨⟨k+1,V*256+s[p+k].toNat,by omega,by go_num,by go_num,by show _=_;rw[ME c,jV,a.out]⟩,by simp[intOf];omega⟩
  ·go_wp2;go_ret;have e:k=n:=by omega
   subst e;exact⟨zF (by rw[a.out]),rfl⟩
structure TV where
 t:dA
 a1:Option Addr
 c1:Nat
 a2:Option Addr
 c2:Nat
def jH (a:List TV):List Value:=a.flatMap fun y=>[.string y.t.name,.int .i64 y.t.l9,.slice y.a1 y.t.m9.length y.c1,.slice y.a2 y.t.s9.length y.c2]
theorem TJ (a b:List TV):jH (a++b)=jH a++jH b:=by simp[jH]
def ru (w:World) (b:Nat) (T:Nat->Nat) (a:List TV):Prop:=
 ∀i (h:i<a.length),bF w b T (2*i+1) a[i].a1 a[i].t.m9/\bF w b T (2*i+2) a[i].a2 a[i].t.s9
def gS (w:World) (b:Nat) (e:TypeId) (v:Value) (n:Nat) (a:List dA):Prop:=
 ∃T ys,w.ownsRow b e 4 v n (jH ys)/\ys.map (·.t)=a/\(∀g,v.ownBlock=some g->T g=0)/\ru w b T ys
theorem gS.nil (w:World) (b:Nat) (e:TypeId):gS w b e (.slice none 0 0) 0 []:=
 ⟨fun _=>0,[],World.ownsRow_nil _ _ _ _,rfl,fun _ _=>rfl,fun i h=>absurd h (by simp)⟩
theorem gS.row {w:World} {b:Nat} {e:TypeId} {v:Value} {n:Nat} {i:List dA} (h:gS w b e v n i):∃a c,v=.slice a n c:=by
 obtain⟨_,_,h,_⟩:=h;rcases h.2 with⟨rfl,rfl⟩|⟨g,d,f,rfl,_⟩
 ·exact⟨none,0,rfl⟩
 ·exact⟨_,_,rfl⟩
theorem gS.turn {w f:World} {S:Nat->Prop} {b:Nat} {e:TypeId} {v:Value} {n:Nat} {q:List dA} (h:gS w b e v n q) (p:gA S w f) (l:∀g,S g->g<b):gS f b e v n q:=by
 obtain⟨T,t,j,r,s,k⟩:=h;refine⟨T,t,p.row j (fun g a e=>by have:=(j.lt g a).1;have:=l g e;omega),r,s,fun i m=>?_⟩;have o:∀g,g<w.heap.size->b<=g->f.heap[g]?=w.heap[g]?:=fun g a c=>p.block g a (fun e=>by have:=l g e;omega);exact⟨(k i m).1.keep fun g a c d=>⟨o g a c,d⟩,(k i m).2.keep fun g a c d=>⟨o g a c,d⟩⟩
theorem gS.snoc {wr w4 w6:World} {b M d p k:Nat} {e:TypeId} {v:Value} {T:Nat->Nat} {ys:List TV} {S:List dA} {t:dA} {y A:Option Addr} {P Q:Nat}
 (x:w6.ownsRow b e 4 (.slice (some ⟨d,0,none⟩) (k+1) p) (k+1) (jH ys++[.string t.name,.int .i64 t.l9,.slice y t.m9.length P,.slice A t.s9.length Q]))
 (N:ys.map (·.t)=S) (L:ys.length=k) (K:∀g,v.ownBlock=some g->T g=0) (hp:ru wr b T ys) (hb:b<=wr.heap.size) (X:wr.heap.size<=M)
 (s:∀g,g<wr.heap.size->b<=g->v.ownBlock≠some g->w6.heap[g]?=wr.heap[g]?) (I:∀g,wr.heap.size<=g->g<w4.heap.size->w6.heap[g]?=w4.heap[g]?)
 (U:dC w4 wr.heap.size y t.m9) (D:∀g o,y=some ⟨g,o,none⟩->g<M) (V:dC w4 M A t.s9)
 (G:(v.ownBlock=some d/\d<wr.heap.size)\/w4.heap.size<=d) (W:wr.heap.size<=w4.heap.size) (Y:M<=w4.heap.size):gS w6 b e (.slice (some ⟨d,0,none⟩) (k+1) p) (k+1) (S++[t]):=by
 have l:∀{B n:Nat} {z:Nat->Nat} {a:Option Addr} {O:List lA},wr.heap.size<=B->dC w4 B a O->(∀g o,a=some ⟨g,o,none⟩->B<=g->g<w4.heap.size->z g=n)->bF w6 b z n a O:=by
  intro B n z a O hB h q;rcases h with h|⟨g,o,C,ty,rfl,E,f,F⟩
  ·exact Ca h
  ·have w:=aA f;have u:=I g (by omega) w;have Z:∀j,w6.cell? ⟨g,j,none⟩=w4.cell? ⟨g,j,none⟩:=fun j=>World.cell?_of_block u;exact Ja ⟨g,o,C,ty,rfl,by omega,q g o rfl E w,u.trans f,fun i H=>by simp only[Z];exact F i H⟩
 refine⟨fun g=>if g<wr.heap.size then T g else if g<M then 2*k+1 else if g<w4.heap.size then 2*k+2 else 0,ys++[⟨t,y,P,A,Q⟩],?_,?_,?_,?_⟩
 ·rw[TJ];exact x
 ·rw[Vd,N];rfl
 ·intro g c;simp only[Value.ownBlock,Pa]at c;subst c;rcases G with⟨h,J⟩|h
  ·simp only[Qa J];exact K _ h
  ·simp only[Oa (show ¬d<wr.heap.size by omega),Oa (show ¬d<M by omega),Oa (show ¬d<w4.heap.size by omega)]
 ·intro i H;by_cases r:i<ys.length
  ·rw[Be r];obtain⟨p1,p2⟩:=hp i r;refine⟨p1.keep fun g c m q=>⟨s g c m (fun e=>by have:=K g e;omega),by simp only[Qa c];exact q⟩,p2.keep fun g c m q=>⟨s g c m (fun e=>by have:=K g e;omega),by simp only[Qa c];exact q⟩⟩
  ·have e:i=k:=by simp at H;omega
   subst e;rw[Pe (by omega)];simp only[L,Nat.sub_self,Df];refine⟨l (Ka _) U fun g o R c _=>?_,l X V fun g o R c J=>?_⟩
   ·simp only[Oa (show ¬g<wr.heap.size by omega),Qa (D g o R)]
   ·simp only[Oa (show ¬g<wr.heap.size by omega),Oa (show ¬g<M by omega),Qa J]
theorem gS.own {w:World} {b:Nat} {e:TypeId} {a:Option Addr} {n v:Nat} {u:List dA} (h:gS w b e (.slice a n v) n u) (L:u.length=n):oC w b a u:=by
 obtain⟨T,m,F,B,G,C⟩:=h;have N:m.length=n:=by rw[<-L,<-B,Rb]
 rcases F.2 with⟨_,P⟩|⟨g,A,p,y,H,D,_,_,M,z⟩
 ·exact Ca (Qb.1 (by omega))
 ·simp only[Value.slice.injEq]at y;have I:=G g (by rw[y.1];rfl);have J:∀(l:List TV) i (q:i<l.length),(jH l)[i*4]?=some (.string l[i].t.name)/\(jH l)[i*4+1]?=some (.int .i64 l[i].t.l9)/\(jH l)[i*4+2]?=some (.slice l[i].a1 l[i].t.m9.length l[i].c1)/\(jH l)[i*4+3]?=some (.slice l[i].a2 l[i].t.s9.length l[i].c2):=by
   intro l;unfold jH;induction l with
   |nil=>intro i q;exact absurd q (by simp)
   |cons x r O=>
    intro i q;cases i with
    |zero=>simp
    |succ i=>
     have:=O i (by simpa using q);simp only[Sc,Xc,Nb,Ic];refine⟨?_,?_,?_,?_⟩
     ·rw[show(i+1)*4=i*4+1+1+1+1 by omega,Ia,Ia,Ia,Ia];exact this.1
     ·rw[show(i+1)*4+1=i*4+1+1+1+1+1 by omega,Ia,Ia,Ia,Ia];exact this.2.1
     ·rw[show(i+1)*4+2=i*4+2+1+1+1+1 by omega,Ia,Ia,Ia,Ia];exact this.2.2.1
     ·rw[show(i+1)*4+3=i*4+3+1+1+1+1 by omega,Ia,Ia,Ia,Ia];exact this.2.2.2
  have s:∀j,j<n*4->w.cell? ⟨g,j,none⟩=(jH m)[j]?:=fun j K=>by
   rw[eA.cell (show eA w g p e from D) j,<-Zd,<-z,Mb K]
  refine Ja ⟨g,0,p,e,T,y.1,H,D,I,fun i q=>?_⟩;have o:i<m.length:=by omega
  have E:u[i]=m[i].t:=by simp only[<-B,List.getElem_map]
  obtain⟨c,d,f,k⟩:=J m i o;rw[E];refine⟨m[i].a1,m[i].c1,m[i].a2,m[i].c2,?_,?_,?_,?_,(C i o).1,(C i o).2⟩
  ·rw[Wa,s _ (by omega)];exact c
  ·rw[Wa,s _ (by omega)];exact d
  ·rw[Wa,s _ (by omega)];exact f
  ·rw[Wa,s _ (by omega)];exact k
def AC (v:Int):Prop:=-9223372036854775808<=v/\v<=9223372036854775807
def jB (n:Nat):Int:=IntKind.i64.wrap (n:Int)
theorem CS (n:Nat):jB n=if n % 18446744073709551616<9223372036854775808 then((n % 18446744073709551616:Nat):Int) else((n % 18446744073709551616:Nat):Int)-18446744073709551616:=by
 unfold jB IntKind.wrap;simp[IntKind.bits,IntKind.signed];split<;>split<;>omega
theorem kD {n:Nat} (h:n<9223372036854775808):jB n=(n:Int):=by rw[CS,Qa (by omega)];omega
theorem EO (n:Nat):AC (jB n):=by rw[CS];unfold AC;split<;>omega
theorem vw (n:Nat) (v:Int):fA n v=fA n ((v % (256 ^ n:Nat)).toNat:Nat):=by
 have b:∀m,m<=n->bV v m=bV ((v % (256 ^ n:Nat)).toNat:Nat) m:=by
  intro m;induction m with
  |zero=>intro _;rfl
  |succ m a=>
   intro i;rw[bV,bV,a (by omega)];congr 1;have c:∀(u:Int) k,vZ u k=u / ((256 ^ k:Nat):Int):=by
    intro u k;induction k with
    |zero=>simp[vZ]
    |succ k a=>rw[vZ,a,Int.ediv_ediv_of_nonneg (Int.natCast_nonneg _),Md,Int.natCast_mul];rfl
   have f:0<=v % ((256 ^ n:Nat):Int):=Int.emod_nonneg _ (by have:=Fg (n:=n) (show 0<256 by omega);omega);rw[c,c,Vg f];obtain⟨d,h⟩:∃d,n=m+1+d:=⟨n-m-1,by omega⟩
   have e:((256 ^ n:Nat):Int)=((256 ^ m:Nat):Int)*(256*((256 ^ d:Nat):Int)):=by
    subst h;rw[Nat.pow_add,Nat.pow_add,Nat.pow_one,Nat.mul_assoc,Int.natCast_mul,Int.natCast_mul];rfl
   have j:(0:Int)<((256 ^ m:Nat):Int):=by have:=Fg (n:=m) (show 0<256 by omega);omega
   generalize ((256 ^ m:Nat):Int)=A at *;generalize ((256 ^ d:Nat):Int)=D at *;rw[e];have g:v % (A*(256*D))=v-A*(256*D*(v / (A*(256*D)))):=by
    rw[Int.emod_def];congr 1;rw[Int.mul_assoc]
   rw[g,show v-A*(256*D*(v / (A*(256*D))))=v+A*(-(256*D*(v / (A*(256*D))))) by rw[Int.mul_neg];rfl,Int.add_mul_ediv_left _ _ (by omega)];rw[show -(256*D*(v / (A*(256*D))))=256*(-(D*(v / (A*(256*D))))) by rw[Int.mul_neg,Int.mul_assoc],Int.add_mul_emod_self_left]
 show strOfNums _=strOfNums _;rw[b n (Ka _)]
theorem vN (v:Int) (h:AC v):jB (jN (fA 8 v).data.toList)=v:=by
 obtain⟨b,c⟩:=h;have a:((256 ^ 8:Nat):Int)=18446744073709551616:=by decide
 have d:((v % ((256 ^ 8:Nat):Int)).toNat:Int)=v % 18446744073709551616:=by rw[a];omega
 rw[vw,cI 8 _ (by
  have:(256:Nat) ^ 8=18446744073709551616:=by decide
  rw[this];omega),CS]
 split<;>omega
theorem sU {n:Nat} {r:Rd} (h:r.r9=true):(uB n r).2.r9=true:=by
 unfold uB;split<;>simp[h]
theorem bD {k:Nat} {r:Rd} (h:r.r9=true):(zA k r).2.r9=true:=by rw[zA];exact sU h
theorem wF {k:Nat} {r:Rd} (h:r.r9=true):(oA k r).2.r9=true:=by rw[oA];exact sU (bD h)
theorem jG {k:Nat} {r:Rd} {v:Int} {q:ByteArray} (h:r.rest=fA k v++q):zA k r=(jN (fA k v).data.toList,⟨q,r.r9⟩):=by
 have a:=dT (n:=k) h (iA k _);unfold zA;rw[a]
theorem EY {R a x f m:Nat} (h:R<4294967296) (g:a<4294967296) (o:m<=30) (e:cL R x / 2 ^ m=cL a f / 2 ^ m):(R+x) % 2=(a+f) % 2/\R / 2 ^ (m+1)=a / 2 ^ (m+1):=by
 have i:∀r:Nat,r / 2 ^ (m+1)=r / 2 / 2 ^ m:=fun r=>by rw[Ef,Md,Nat.mul_comm]
 have d:∀r:Nat,r<4294967296->(r / 2).testBit 31=false:=fun r j=>Nat.testBit_lt_two_pow (by omega);have n:Nat.testBit 2197175160 31=true:=by decide
 have k:∀r:Nat,r<4294967296->((r / 2) ^^^ 2197175160).testBit 31=true:=fun r j=>by rw[Nat.testBit_xor,d r j,n];rfl
 have b:=Fd (fun z=>z.testBit (31-m)) e;simp only[Nat.testBit_div_two_pow,show 31-m+m=31 by omega]at b;rw[i,i];unfold cL at e b;by_cases p:(R+x) % 2=1<;>by_cases c:(a+f) % 2=1
 ·rw[Qa p,Qa c]at e;refine⟨by omega,?_⟩;rw[<-Nat.shiftRight_eq_div_pow,<-Nat.shiftRight_eq_div_pow,Nat.shiftRight_xor_distrib,Nat.shiftRight_xor_distrib]at e;rw[<-Nat.shiftRight_eq_div_pow,<-Nat.shiftRight_eq_div_pow];have l:=Fd (fun z=>z ^^^ (2197175160 >>> m)) e;simpa only[Nat.xor_assoc,Nat.xor_self,Nat.xor_zero]using l
 ·rw[Qa p,Oa c,k R h,d a g]at b;exact absurd b (by simp)
 ·rw[Oa p,Qa c,d R h,k a g]at b;exact absurd b (by simp)
 ·rw[Oa p,Oa c]at e;exact⟨by omega,e⟩
theorem EZ {r c b b':Nat} (h:r<4294967296) (d:c<4294967296):∀k m,m+k<=31->xF r b k / 2 ^ m=xF c b' k / 2 ^ m->∀j,j<k->(xF r b j+b / 2 ^ j) % 2=(xF c b' j+b' / 2 ^ j) % 2
 |0,_,_,_,j,i=>by omega
 |k+1,m,l,e,j,i=>by
  obtain⟨f,g⟩:=EY (sF h k) (sF d k) (by omega) e;rcases Rc j k with a|a
  ·exact EZ h d k (m+1) (by omega) g j a
  ·obtain rfl:j=k:=by omega
   exact f
theorem SO {r:Nat} {c a:UInt8} (h:r<4294967296) (e:yI r c=yI r a):c=a:=by
 unfold yI at e;have i:=EZ (b:=c.toNat) (b':=a.toNat) h h 8 0 (by omega) (by rw[e]);have o:∀k,k<=8->xF r c.toNat k=xF r a.toNat k:=fun k=>by
  induction k with
  |zero=>exact fun _=>rfl
  |succ k g=>
   intro t;have d:=g (by omega);have f:=i k (by omega);show cL _ _=cL _ _;rw[d]at f |-
   unfold cL;rw[f]
 have n:∀j,j<8->c.toNat / 2 ^ j % 2=a.toNat / 2 ^ j % 2:=fun j m=>by
  have d:=o j (by omega);have f:=i j m;rw[d]at f;omega
 have p:∀j,j<=8->c.toNat / 2 ^ (8-j)=a.toNat / 2 ^ (8-j):=fun j=>by
  induction j with
  |zero=>
   have q:=c.toNat_lt;have s:=a.toNat_lt;intro _;rw[Nat.div_eq_of_lt q,Nat.div_eq_of_lt s]
  |succ j g=>
   intro m;have d:=g (by omega);have f:=n (8-(j+1)) (by omega);rw[show 8-j=8-(j+1)+1 by omega,Md,<-Ef,<-Ef]at d;generalize c.toNat / 2 ^ (8-(j+1))=x at *;generalize a.toNat / 2 ^ (8-(j+1))=y at *;clear g i o n e;omega
 have l:=p 8 (Ka _);rw[Nat.sub_self,Nat.pow_zero,Nat.div_one,Nat.div_one]at l;exact UInt8.toNat_inj.1 l
theorem WZ {r a:Nat} {c:UInt8} (h:r<4294967296) (d:a<4294967296) (e:yI r c=yI a c):r=a:=by
 unfold yI at e;have f:∀k,xF r c.toNat k=xF a c.toNat k->r=a:=fun k=>by
  induction k with
  |zero=>exact fun e=>e
  |succ k g=>
   intro e;obtain⟨i,b⟩:=EY (m:=0) (sF h k) (sF d k) (by omega) (Fd (·/ 2 ^ 0) e);exact g (by simp only[Wa,Nat.pow_one]at b;omega)
 exact f 8 e
theorem XD:∀(l:List UInt8) {r a:Nat},r<4294967296->a<4294967296->l.foldl yI r=l.foldl yI a->r=a
 |[],_,_,_,_,e=>e
 |_::l,_,_,h,b,e=>WZ h b (XD l (sF h 8) (sF b 8) e)
theorem md {l m:List UInt8} {c a:UInt8} (e:JV (l++c::m)=JV (l++a::m)):c=a:=by
 simp only[JV,Kf,Yd]at e;exact SO (vW l) (XD m (sF (vW l) 8) (sF (vW l) 8) e)
