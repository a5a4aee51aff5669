import Derived.Test.YtabgbmfcbobamaaGreatDoorJ26
import Derived.Deep.WholeRow
import Derived.Test.YtabgbmfcbobamaaGreatDoorJ27
set_option maxRecDepth 100000
set_option maxHeartbeats 8000000
namespace Go.Proofs.YtabgbmfcbobamaaGreatDoor
open Go.RowKit Tryz
structure C14 (cs:Array Value):Prop where
 size:cs.size=14
 one:cs.all (·.oneCell')=true
theorem sH (a b:Option Addr) (c d:Nat) (N:yC):C14 (iB a c b d N):=⟨rfl,by simp[iB,Value.oneCell']⟩
def dM (W:World) (X:Nat):Prop:=∃a T,eA W X a T/\a.size=14
theorem eA.box {W:World} {X:Nat} {cs:Array Value} {T:TypeId} (h:eA W X cs T) (a:cs.size=14):dM W X:=⟨cs,T,h,a⟩
theorem lE (a:Option Addr) (e:Nat) (b:Option Addr) (f:Nat) (N:yC):#[.slice a N.d.fs.length e,.int .i64 N.d.c,.int .i64 N.d.k,.int .i64 N.d.cr,.int .i64 N.d.fl,.bool N.d.dn,.int .i64 N.l.first,.int .i64 N.l.last,.int .i64 N.l.size,.int .i64 N.now,.slice b N.ts.length f,.int .i64 N.lsn,.bool N.deg,.bool N.up]=iB a e b f N:=rfl
theorem xO:#[.slice none 0 0,.int .i64 0,.int .i64 0,.int .i64 0,.int .i64 0,.bool false,.int .i64 0,.int .i64 0,.int .i64 0,.int .i64 0,.slice none 0 0,.int .i64 0,.bool false,.bool false]=iB none 0 none 0 lJ:=rfl
theorem rG (a b:Option Addr) (c d:Nat) (N:yC):(iB a c b d N).size=14:=rfl
theorem yE (a:Option Addr) (e:Nat) (b:Option Addr) (f:Nat) (N:yC) (T:TypeId):∀W X,eA W X (iB a e b f N) T->W.cell? ⟨X,0,none⟩=some (.slice a N.d.fs.length e)/\W.cell? ⟨X,1,none⟩=some (.int .i64 N.d.c)/\W.cell? ⟨X,2,none⟩=some (.int .i64 N.d.k)/\W.cell? ⟨X,3,none⟩=some (.int .i64 N.d.cr)/\W.cell? ⟨X,4,none⟩=some (.int .i64 N.d.fl)/\W.cell? ⟨X,5,none⟩=some (.bool N.d.dn)/\W.cell? ⟨X,6,none⟩=some (.int .i64 N.l.first)/\W.cell? ⟨X,7,none⟩=some (.int .i64 N.l.last)/\W.cell? ⟨X,8,none⟩=some (.int .i64 N.l.size)/\W.cell? ⟨X,9,none⟩=some (.int .i64 N.now)/\W.cell? ⟨X,10,none⟩=some (.slice b N.ts.length f)/\W.cell? ⟨X,11,none⟩=some (.int .i64 N.lsn)/\W.cell? ⟨X,12,none⟩=some (.bool N.deg)/\W.cell? ⟨X,13,none⟩=some (.bool N.up):=fun _ _ h=>h.n14
theorem mN {W:World} {X:Nat} {cs:Array Value} (h:dM W X) (a:C14 cs):(storeCells ⟨X,0,none⟩ cs.toList 0).run prog W=.ok () (W.setRow X cs):=by
 obtain⟨e,T,d,b⟩:=h;have:=run_storeCells_from (P:=prog) X T cs.toList 0 e W d (by simp[b,a.size]) (fun v c=>(Array.all_eq_true_iff_forall_mem.1 a.one) v (by simpa using c));simpa using this
theorem eA.drewI {W:World} {X:Nat} {cs:Array Value} {T:TypeId}:eA W.drew X cs T ↔ eA W X cs T:=Iff.rfl
theorem dM.drewI {W:World} {X:Nat}:dM W.drew X ↔ dM W X:=Iff.rfl
theorem dM.new (w:World) (a b:Option Addr) (ca c:Nat) (N:yC) (T:TypeId):dM (w.alloc (.cells (iB a ca b c N) T)) w.heap.size:=(eA.new w _ T).box rfl
theorem dM.alloc {W:World} {X:Nat} (h:dM W X) (o:Obj):dM (W.alloc o) X:=by
 obtain⟨c,T,b,a⟩:=h;exact⟨c,T,b.alloc o,a⟩
theorem dM.alloc2 {W:World} {X:Nat} (h:dM W X) (o a:Obj):dM ((W.alloc o).alloc a) X:=(h.alloc o).alloc a
theorem eA.row {W:World} {X:Nat} {a cs:Array Value} {T:TypeId} (h:eA W X a T):eA (W.setRow X cs) X cs T:=setRow_heap _ _ _ _ _ _ h
theorem fF (W:World) (X:Nat) (cs:Array Value):gA (·=X) W (W.setRow X cs):=⟨rfl,rfl,rfl,by simp,fun k _ a=>setRow_other _ _ _ _ a⟩
theorem DA {C:World->Prop} {w:World} {X:Nat} {a cs:Array Value} {T:TypeId} (h:eA w X a T) (k:∀W,eA W X cs T->gA (·=X) w W->C W):C (w.setRow X cs):=k _ h.row (fF _ _ _)
theorem mD (a b:Option Addr) (c d:Nat) (N:yC):∀(j:Nat) (s:ByteArray),(iB a c b d N)[j]?≠some (Value.string s):=fun j s=>by
 unfold iB;match j with
 |0|1|2|3|4|5|6|7|8|9|10|11|12|13=>simp
 |j+14=>simp
section
variable {w W:World} {P:Nat} {cs:Array Value} {t:TypeId}
theorem oZ (g:eA w P cs t) (f:∀(j:Nat) (s:ByteArray),cs[j]?≠some (Value.string s)) (d:gA (·=P) w W) {b o:Nat} {s:ByteArray} (c:b<w.heap.size) (h:w.cell? ⟨b,o,none⟩=some (.string s)):b<W.heap.size/\∀j,W.cell? ⟨b,j,none⟩=w.cell? ⟨b,j,none⟩:=by
 have a:b≠P:=fun e=>by subst e;rw[g.cell]at h;exact f _ _ h
 exact⟨Ib c d.size,fun j=>World.cell?_of_block (d.block b c a)⟩
theorem qA.store (m:eA w P cs t) (k:∀(j:Nat) (s:ByteArray),cs[j]?≠some (Value.string s)) (l:gA (·=P) w W) {a:Option Addr} {c:List kA} (h:qA w a c):qA W a c:=by
 rcases h with h|⟨b,o,e,d,h⟩
 ·exact Ca h
 ·cases c with
  |nil=>exact Ca rfl
  |cons f r=>
   obtain⟨n,p⟩:=oZ m k l d (h 0 (by simp)).1;exact Ja ⟨b,o,e,n,fun i g=>by simp only[p];exact h i g⟩
theorem yA.store (m:eA w P cs t) (k:∀(j:Nat) (s:ByteArray),cs[j]?≠some (Value.string s)) (l:gA (·=P) w W) {a:Option Addr} {c:List lA} (h:yA w a c):yA W a c:=by
 rcases h with h|⟨b,o,e,d,h⟩
 ·exact Ca h
 ·cases c with
  |nil=>exact Ca rfl
  |cons f r=>
   obtain⟨n,p⟩:=oZ m k l d (h 0 (by simp)).1;exact Ja ⟨b,o,e,n,fun i g=>by simp only[p];exact h i g⟩
theorem oB.store (l:eA w P cs t) (g:∀(j:Nat) (s:ByteArray),cs[j]?≠some (Value.string s)) (k:gA (·=P) w W) {a:Option Addr} {m:List dA} (h:oB w a m):oB W a m:=by
 rcases h with h|⟨b,o,e,B,h⟩
 ·exact Ca h
 ·cases m with
  |nil=>exact Ca rfl
  |cons f r=>
   obtain⟨_,_,_,_,d,_⟩:=h 0 (by simp);obtain⟨D,c⟩:=oZ l g k B d;refine Ja ⟨b,o,e,D,fun i C=>?_⟩;obtain⟨n,q,p,u,v,d,x,y,z,A⟩:=h i C;exact⟨n,q,p,u,(c _).trans v,(c _).trans d,(c _).trans x,(c _).trans y,z.store l g k,A.store l g k⟩
end
def mK (r:lC):Prop:=r.n9.size<=255/\r.text.size<=65535/\((r.kind=1/\r.num=0)\/(r.kind=2/\r.n9.size=0/\r.text.size=0)\/r.kind=3)
def rcD (r:lC):Decidable (mK r):=by unfold mK;infer_instance
def aq (r:lC):Bool:=@decide (mK r) (rcD r)
theorem QN {r:lC} (h:mK r):aq r=true:=@Zb _ (rcD r) h
theorem mY {r:lC} (h:¬mK r):aq r=false:=@Bc _ (rcD r) h
def GV (r:lC):ByteArray:=fA 1 r.kind++oK r.n9++nD r.text++fA 8 r.num
def qF:List lC->ByteArray
 |[]=>ByteArray.empty
 |r::q=>GV r++qF q
def dg (a:List lC):Prop:=∀i (h:i<a.length),mK a[i]
def zQ (a:Int) (b:List lC):Prop:=1<=a/\a<=1000000000000000/\1<=b.length/\b.length<=500/\dg b
def AH (a:Int) (n:Nat):ByteArray:=fA 8 a++fA 2 (n:Nat)
def aGb (a:Int) (b:List lC):Decidable (zQ a b):=by unfold zQ dg mK;infer_instance
def zG (a:Int) (b:List lC):ByteArray:=haveI:=aGb a b;if zQ a b then AH a b.length++qF b else ByteArray.empty
theorem AG {a:Int} {b:List lC} (h:zQ a b):zG a b=AH a b.length++qF b:=by unfold zG;rw[Qa h]
theorem sW {lsn:Int} {rs:List lC} (h:¬zQ lsn rs):zG lsn rs=ByteArray.empty:=by unfold zG;rw[Oa h]
theorem AR:∀(a b:List lC),qF (a++b)=qF a++qF b
 |[],b=>by simp[qF]
 |r::q,b=>by
  show GV r++qF (q++b)=GV r++qF q++qF b;rw[AR q b,Gb]
theorem ed (a:List lC) (k:Nat) (h:k<a.length):qF (a.take (k+1))=qF (a.take k)++GV a[k]:=by
 rw[Ma h,AR];simp[qF]
theorem OX (r:lC):(GV r).size=12+r.n9.size+r.text.size:=by
 unfold GV;rw[Ga,Ga,Ga,iA,iA,mE,oD];omega
theorem AJ (a:Int) (n:Nat):(AH a n).size=10:=by unfold AH;rw[Ga,iA,iA]
theorem iu {b:List lC} {k:Nat} (d:k<b.length) (h:¬mK b[k]) (a:Int):zG a b=ByteArray.empty:=sW fun c=>h (c.2.2.2.2 k d)
theorem qf {c:vB} {a:Int} {d:List dA} {b:List lC} {k:Nat} (e:k<b.length) (f:(vF c a d b[k]).2.2=true):qL c a d (b.drop k)=qL c (vF c a d b[k]).1 (vF c a d b[k]).2.1 (b.drop (k+1)):=by
 rw[Kb e,qL,Qa f]
theorem qg {c:vB} {a:Int} {d:List dA} {b:List lC} {k:Nat} (e:k<b.length) (f:(vF c a d b[k]).2.2=false):qL c a d (b.drop k)=((vF c a d b[k]).1,(vF c a d b[k]).2.1,false):=by
 rw[Kb e,qL,Oa (by rw[f];decide)]
theorem UZ (a:List lC) {k:Nat} (b:k<a.length):pC (a.drop k)=a[k].n9.size+a[k].text.size+pC (a.drop (k+1)):=by
 rw[Kb b,pC]
def fu (N:yC) (R:pE×mP×Nat) (S:Int×List dA×Bool):yC×Int:=
 if R.2.2=0 then(⟨R.1,R.2.1,S.1,S.2.1,N.lsn+1,false,true⟩,0)
 else if R.2.2=22\/R.2.2=23\/R.2.2=21 then(N,R.2.2)
 else(⟨R.1,R.2.1,N.now,N.ts,N.lsn,true,!R.1.dn⟩,R.2.2)
def bJ (c:vB) (N:yC) (rs:List lC):yC×Int:=
 if jE c=false then(lJ,61) else if yk N=false then(N,60)
 else if (lM c N.now N.ts rs).2.2=false\/xA N.lsn 0 999999999999999=false\/zG (N.lsn+1) rs=ByteArray.empty then(N,62)
 else fu N (bI N.d N.l (zG (N.lsn+1) rs) c.sg) (lM c N.now N.ts rs)
section
variable {c:vB} {N:yC} {rs:List lC} {R:pE×mP×Nat} {S:Int×List dA×Bool}
theorem aGh (h:jE c=false):bJ c N rs=(lJ,61):=by unfold bJ;rw[Qa h]
theorem aCx (h:jE c=true):yk N=false/\bJ c N rs=(N,60)\/yk N=true/\((lM c N.now N.ts rs).2.2=false/\bJ c N rs=(N,62)\/(lM c N.now N.ts rs).2.2=true/\(xA N.lsn 0 999999999999999=false/\bJ c N rs=(N,62)\/xA N.lsn 0 999999999999999=true/\(zG (N.lsn+1) rs=ByteArray.empty/\bJ c N rs=(N,62)\/(zG (N.lsn+1) rs).toList.isEmpty=false/\bJ c N rs=fu N (bI N.d N.l (zG (N.lsn+1) rs) c.sg) (lM c N.now N.ts rs)))):=by
 unfold bJ;rw[Oa (by simp[h])];cases h1:yk N
 ·exact Ca ⟨rfl,Qa rfl⟩
 refine Ja ⟨rfl,?_⟩;rw[Oa (by simp)];cases h2:(lM c N.now N.ts rs).2.2
 ·exact Ca ⟨rfl,Qa (Ca rfl)⟩
 refine Ja ⟨rfl,?_⟩;cases h3:xA N.lsn 0 999999999999999
 ·exact Ca ⟨rfl,Qa (Ja (Ca rfl))⟩
 refine Ja ⟨rfl,?_⟩;by_cases a:zG (N.lsn+1) rs=ByteArray.empty
 ·exact Ca ⟨a,Qa (Ja (Ja a))⟩
 ·exact Ja ⟨pW.2 a,Oa (by simp[a])⟩
theorem aGi:(((R.2.2:Int)==0)=true/\((R.2.2:Int)==22)=false/\((R.2.2:Int)==23)=false/\((R.2.2:Int)==21)=false/\fu N R S=(⟨R.1,R.2.1,S.1,S.2.1,N.lsn+1,false,true⟩,0))\/
 (((R.2.2:Int)==0)=false/\¬(R.2.2:Int)=0/\((((R.2.2:Int)==22)=true\/((R.2.2:Int)==22)=false/\(((R.2.2:Int)==23)=true\/((R.2.2:Int)==23)=false/\((R.2.2:Int)==21)=true))/\fu N R S=(N,(R.2.2:Int))\/
   ((R.2.2:Int)==22)=false/\((R.2.2:Int)==23)=false/\((R.2.2:Int)==21)=false/\fu N R S=(⟨R.1,R.2.1,N.now,N.ts,N.lsn,true,!R.1.dn⟩,(R.2.2:Int)))):=by
 unfold fu;by_cases a:R.2.2=0
 ·exact Ca ⟨by simp[a],by simp[a],by simp[a],by simp[a],by simp[a]⟩
 refine Ja ⟨by simp;omega,by omega,?_⟩;by_cases b:R.2.2=22\/R.2.2=23\/R.2.2=21
 ·refine Ca ⟨?_,by simp[a,b]⟩;rcases b with h|h|h<;>simp[h]
 ·refine Ja ⟨by simp;omega,by simp;omega,by simp;omega,by simp[a,b]⟩
end
theorem KD:∀rs:List lC,(qF rs).size=12*rs.length+pC rs
 |[]=>rfl
 |r::q=>by
  have:=KD q;show(GV r++qF q).size=12*(q.length+1)+(r.n9.size+r.text.size+pC q)
  rw[Ga,OX];omega
theorem zn {a:Int} {rs:List lC} (h:rs.length+pC rs<=1048576):(zG a rs).size<=1100000:=by
 by_cases b:zQ a rs
 ·have:=b.2.2.2.1;rw[AG b,Ga,AJ,KD];omega
 ·rw[sW b];exact La _
theorem FI {D:pE} {L:mP} {f:ByteArray} (h:CU D.fs):CU (wJ D L f).1.fs:=by
 have b:(wQ L.last).size<=maxLen:=by have:=aN (L.last);unfold maxLen;omega
 have a:CU (eF D (qI L.last f)).1.fs:=qV h b (La _);have d:=qV (op:=sZ L.last) a b (La _);unfold wJ;split
 ·exact a
 ·split<;>exact d
theorem FH {D:pE} {L:mP} {p:ByteArray} {most:Int} (h:CU D.fs):CU (bI D L p most).1.fs:=by
 have a:CU (eF D (bO (L.last+1))).1.fs:=qV h (by have:=aN (L.last+1);unfold maxLen;show(wQ (L.last+1)).size<=_;omega) (La _);unfold bI;repeat' split
 all_goals first|exact h|exact a|exact FI a|exact FI h
structure aGt (w:World) (a b:Option Addr) (N:yC) (ar:Option Addr) (rs:List lC):Prop where
 files:qA w a N.d.fs
 fit:CU N.d.fs
 tens:oB w b N.ts
 recs:gF w ar rs
 bulk:N.ts.length+uA N.ts+rs.length+pC rs≤1048576
 rng:MW rs
 lsn:AC N.lsn
theorem qR {a:List dA} (h:a.length+uA a<=1048576):∀t∈a,t.m9.length<=2000000/\t.s9.length<=2000000:=fun t e=>by
 obtain⟨i,d,rfl⟩:=Ob e;have b:=mH a i d;have f:=iJ a (i+1);unfold fD at b;omega
theorem qT (a b:Int) (c d:ByteArray) (w:World):
 Calls prog 226 #[.agg #[.int .i64 a,.string c],.string d,.int .i64 b] w fun e f=>e=.returned (.agg #[.int .i64 a,.string c,.string d,.int .i64 b])/\Below w.heap.size w f:=by
 go_enter func226,ntmps226;go_wp2;exact bodyPost_ret (v:=.agg #[.int .i64 a,.string c,.string d,.int .i64 b]) (by simp[results,results226,go_sem]) rfl ⟨rfl,nA (cA _ _) (cA _ _)⟩
theorem ne (d:Int) (f g:ByteArray) (w:World):
 Calls prog 227 #[.agg #[.int .i64 d,.string f,.string g]] w fun e m=>e=.returned (.agg #[.int .i64 d,.string f,.string g,.int .i64 0])/\Below w.heap.size w m:=by
 go_enter func227,ntmps227;go_wp2_with fail;refine(qT _ _ _ _ _).mono ?_;rintro e c ⟨rfl,b⟩;have h:Hid _:=nA (nA (cA _ _) (cA _ _)) b;have a:Hid (eA c (w.heap.size+1) #[.int .i64 0,.string ByteArray.empty,.string ByteArray.empty,.int .i64 0] 31):=by have:=(eA.new (w.alloc (.cells #[.int .i64 d,.string f,.string g] 171)) #[.int .i64 0,.string ByteArray.empty,.string ByteArray.empty,.int .i64 0] 31).later b;exact bA (by simpa using this)
 have i:c.cell? ⟨w.heap.size+1,0,none⟩=some (.int .i64 0):=a.out.cell 0;have j:c.cell? ⟨w.heap.size+1,1,none⟩=some (.string ByteArray.empty):=a.out.cell 1;have k:c.cell? ⟨w.heap.size+1,2,none⟩=some (.string ByteArray.empty):=a.out.cell 2;have l:c.cell? ⟨w.heap.size+1,3,none⟩=some (.int .i64 0):=a.out.cell 3;have n:=a.out.free 0;have o:=a.out.free 1;have p:=a.out.free 2;have q:=a.out.free 3;clear b;go_wp2;refine bodyPost_ret (v:=.agg #[.int .i64 d,.string f,.string g,.int .i64 0]) (by simp[results,results227,go_sem,i,j,k,l]) rfl ⟨rfl,?_⟩;exact(((h.out.setCell (by simp) _).setCell (by simp) _).setCell (by simp) _).setCell (by simp) _
theorem nf (d f:Int) (g:ByteArray) (w:World):
 Calls prog 228 #[.agg #[.int .i64 d,.string g,.int .i64 f]] w fun e m=>e=.returned (.agg #[.int .i64 d,.string g,.string ByteArray.empty,.int .i64 f])/\Below w.heap.size w m:=by
 go_enter func228,ntmps228;go_wp2_with fail;refine(qT _ _ _ _ _).mono ?_;rintro e c ⟨rfl,b⟩;have h:Hid _:=nA (nA (cA _ _) (cA _ _)) b;have a:Hid (eA c (w.heap.size+1) #[.int .i64 0,.string ByteArray.empty,.string ByteArray.empty,.int .i64 0] 31):=by have:=(eA.new (w.alloc (.cells #[.int .i64 d,.string g,.int .i64 f] 173)) #[.int .i64 0,.string ByteArray.empty,.string ByteArray.empty,.int .i64 0] 31).later b;exact bA (by simpa using this)
 have i:c.cell? ⟨w.heap.size+1,0,none⟩=some (.int .i64 0):=a.out.cell 0;have j:c.cell? ⟨w.heap.size+1,1,none⟩=some (.string ByteArray.empty):=a.out.cell 1;have k:c.cell? ⟨w.heap.size+1,2,none⟩=some (.string ByteArray.empty):=a.out.cell 2;have l:c.cell? ⟨w.heap.size+1,3,none⟩=some (.int .i64 0):=a.out.cell 3;have n:=a.out.free 0;have o:=a.out.free 1;have p:=a.out.free 2;have q:=a.out.free 3;clear b;go_wp2;refine bodyPost_ret (v:=.agg #[.int .i64 d,.string g,.string ByteArray.empty,.int .i64 f]) (by simp[results,results228,go_sem,i,j,k,l];rfl) rfl ⟨rfl,?_⟩;exact(((h.out.setCell (by simp) _).setCell (by simp) _).setCell (by simp) _).setCell (by simp) _
theorem my (d f:Int) (g h:ByteArray) (w:World):
 Calls prog 229 #[.agg #[.int .i64 d,.string g,.string h,.int .i64 f]] w fun e n=>e=.returned (.agg #[.int .i64 d,.string g,.string h,.int .i64 f])/\Below w.heap.size w n:=by
 go_enter func229,ntmps229;go_wp2_with fail;refine(qT _ _ _ _ _).mono ?_;rintro e c ⟨rfl,b⟩;have i:Hid _:=nA (nA (cA _ _) (cA _ _)) b;have a:Hid (eA c (w.heap.size+1) #[.int .i64 0,.string ByteArray.empty,.string ByteArray.empty,.int .i64 0] 31):=by have:=(eA.new (w.alloc (.cells #[.int .i64 d,.string g,.string h,.int .i64 f] 175)) #[.int .i64 0,.string ByteArray.empty,.string ByteArray.empty,.int .i64 0] 31).later b;exact bA (by simpa using this)
 have j:c.cell? ⟨w.heap.size+1,0,none⟩=some (.int .i64 0):=a.out.cell 0;have k:c.cell? ⟨w.heap.size+1,1,none⟩=some (.string ByteArray.empty):=a.out.cell 1;have l:c.cell? ⟨w.heap.size+1,2,none⟩=some (.string ByteArray.empty):=a.out.cell 2;have m:c.cell? ⟨w.heap.size+1,3,none⟩=some (.int .i64 0):=a.out.cell 3;have o:=a.out.free 0;have p:=a.out.free 1;have q:=a.out.free 2;have r:=a.out.free 3;clear b;go_wp2;refine bodyPost_ret (v:=.agg #[.int .i64 d,.string g,.string h,.int .i64 f]) (by simp[results,results229,go_sem,j,k,l,m]) rfl ⟨rfl,?_⟩;exact(((i.out.setCell (by simp) _).setCell (by simp) _).setCell (by simp) _).setCell (by simp) _
theorem YP (x : Value) (w : World) : (invoke (.fn (.method "loop.example/s02176/impl.flat") #[]) #[.iface 171 x]).run prog w = .ok (.enter 227 #[x]) w := by kernel_rfl
theorem YQ (x : Value) (w : World) : (invoke (.fn (.method "loop.example/s02176/impl.flat") #[]) #[.iface 173 x]).run prog w = .ok (.enter 228 #[x]) w := by kernel_rfl
theorem YR (x : Value) (w : World) : (invoke (.fn (.method "loop.example/s02176/impl.flat") #[]) #[.iface 175 x]).run prog w = .ok (.enter 229 #[x]) w := by kernel_rfl
def gE:List ByteArray->ByteArray
 |[]=>ByteArray.empty
 |x::r=>x++gE r
theorem pF:∀(a b:List ByteArray),gE (a++b)=gE a++gE b
 |[],b=>by simp[gE]
 |x::r,b=>by
  show x++gE (r++b)=x++gE r++gE b;rw[pF r b,Gb]
theorem tc (a:List ByteArray):(gE a).data.toList=(a.map (·.data.toList)).flatten:=by
 induction a with
 |nil=>rfl
 |cons x r b=>simp[gE,b]
theorem YV (a:List ByteArray):Lib.join (a.map (·.data.toList)) ByteArray.empty.data.toList=(gE a).data.toList:=by
 have e:ByteArray.empty.data.toList=[]:=rfl;rw[tc,e];cases a with
 |nil=>rfl
 |cons x r=>
  rw[Lb,Lib.join_cons,Lib.joinTail];simp;rfl
theorem zi (a:List ByteArray):(⟨(Lib.join (a.map (·.data.toList)) ByteArray.empty.data.toList).toArray⟩:ByteArray)=gE a:=by
 rw[YV]
def wE:List ByteArray->Nat
 |[]=>0
 |x::r=>x.size+wE r
theorem ON:∀(a:List ByteArray),(gE a).size=wE a
 |[]=>rfl
 |x::r=>by rw[gE,Ga,ON r,wE]
theorem mG:∀(a b:List ByteArray),wE (a++b)=wE a+wE b
 |[],b=>by simp[wE]
 |x::r,b=>by show x.size+wE (r++b)=x.size+wE r+wE b;rw[mG r b];omega
theorem KI (n:Nat) (w:World):Calls prog 21 #[.int .i64 (n:Nat)] w fun e b=>e=.returned (.string (fA 1 (n:Nat)))/\Below w.heap.size w b:=by
 have d:Hid (∀W,Calls prog 56 #[.int .i64 (n:Nat),.int .i64 1] W fun e b=>e=.returned (.string (fA 1 (n:Nat)))/\Below W.heap.size W b):=fun W=>eG 1 (n:Nat) W (by omega);generalize fA 1 (n:Nat)=N at *;go_enter func21,ntmps21;go_wp2_with fail;refine(d.out _).mono ?_;rintro e f ⟨rfl,a⟩;have c:Hid _:=a;clear a;go_wp2;go_ret;exact⟨rfl,c.out⟩
theorem eK (g n b:Nat) (a:List ByteArray) (w:World) (p:n=a.length) (i:∀(j:Nat) x,a[j]?=some x->w.cell? ⟨g,0+j,none⟩=some (.string x)) (o:g<w.heap.size) (d:a.length<=b) (q:a.length<=1000000000) (k:wE a<=140737488355328):
 Calls prog 24 #[.slice (some ⟨g,0,none⟩) n b] w fun e f=>e=.returned (.string (gE a))/\Below w.heap.size w f:=by
 subst p;have m:Hid (Calls prog 58 #[.slice (some ⟨g,0,none⟩) a.length b,.string ByteArray.empty] w fun e f=>e=.returned (.string (gE a))/\Below w.heap.size w f):=by
  have h:=strings_Join g 0 b a ByteArray.empty w i o (by omega) d (by rw[YV,<-Lib.size_eq,ON];exact k);rw[zi]at h;exact h
 clear i k;generalize gE a=C at *;generalize a.length=n at *;go_enter func24,ntmps24;go_wp2_with fail;refine m.out.mono ?_;rintro e r ⟨rfl,c⟩;have l:Hid _:=c;clear c;go_wp2;go_ret;exact⟨rfl,l.out⟩
theorem RE {W:World} {x y:ByteArray} {t:TypeId}:∀(j:Nat) z,[x,y][j]?=some z->(W.alloc (.cells #[.string x,.string y] t)).cell? ⟨W.heap.size,0+j,none⟩=some (.string z):=by
 intro j z h;rw[cell_of_row _ W.heap.size _ _ _ _ (heap_alloc_new _ _),Wa];match j,h with
 |0,h=>simp at h;simp[h]
 |1,h=>simp at h;simp[h]
 |j+2,h=>simp at h
theorem uT (s:ByteArray) (w:World) (j:s.size<=1000000000):Calls prog 22 #[.string s] w fun e d=>e=.returned (.string (oK s))/\Below w.heap.size w d:=by
 have i:Hid _:=fun W=>KI s.size W;have k:=iA 1 (s.size:Nat);unfold oK;generalize fA 1 (s.size:Nat)=N at *;have g:Hid (∀W:World,Calls prog 24 #[.slice (some ⟨W.heap.size,0,none⟩) 2 2] (W.alloc (.cells #[.string N,.string s] 9)) fun e d=>e=.returned (.string (N++s))/\Below (W.alloc (.cells #[.string N,.string s] 9)).heap.size (W.alloc (.cells #[.string N,.string s] 9)) d):=fun W=>by
  have h:=eK W.heap.size 2 2 [N,s] (W.alloc (.cells #[.string N,.string s] 9)) rfl RE (by simp) (by simp) (by simp) (by simp[wE];omega);have e:gE [N,s]=N++s:=by simp[gE]
  rw[e]at h;exact h
 go_enter func22,ntmps22;go_wp2_with fail;refine(i.out _).mono ?_;rintro e l ⟨rfl,a⟩;have f:Hid _:=a;clear a;go_wp2_with fail;refine(g.out _).mono ?_;rintro e m ⟨rfl,b⟩;have c:Hid _:=nA (nA f.out (cA _ _)) b;clear b;go_wp2;go_ret;exact⟨rfl,c.out⟩
theorem xN (s:ByteArray) (w:World) (j:s.size<=1000000000):Calls prog 23 #[.string s] w fun e c=>e=.returned (.string (nD s))/\Below w.heap.size w c:=by
 have i:Hid (∀W,Calls prog 56 #[.int .i64 (s.size:Nat),.int .i64 2] W fun e c=>e=.returned (.string (fA 2 (s.size:Nat)))/\Below W.heap.size W c):=fun W=>eG 2 (s.size:Nat) W (by omega);have k:=iA 2 (s.size:Nat);unfold nD;generalize fA 2 (s.size:Nat)=N at *;have g:Hid (∀W:World,Calls prog 24 #[.slice (some ⟨W.heap.size,0,none⟩) 2 2] (W.alloc (.cells #[.string N,.string s] 9)) fun e c=>e=.returned (.string (N++s))/\Below (W.alloc (.cells #[.string N,.string s] 9)).heap.size (W.alloc (.cells #[.string N,.string s] 9)) c):=fun W=>by
  have h:=eK W.heap.size 2 2 [N,s] (W.alloc (.cells #[.string N,.string s] 9)) rfl RE (by simp) (by simp) (by simp) (by simp[wE];omega);have e:gE [N,s]=N++s:=by simp[gE]
  rw[e]at h;exact h
 go_enter func23,ntmps23;go_wp2_with fail;refine(i.out _).mono ?_;rintro e l ⟨rfl,a⟩;have f:Hid _:=a;clear a;go_wp2_with fail;refine(g.out _).mono ?_;rintro e m ⟨rfl,b⟩;have d:Hid _:=nA (nA f.out (cA _ _)) b;clear b;go_wp2;go_ret;exact⟨rfl,d.out⟩
theorem yh {c:vB} {b a:Int} {d:List dA} (h:gB c b d=true):uC c.w a (CP ⟨⟨#[]⟩,0,[],[]⟩ true d)=uC c.w a d:=by
 rw[sR (t:=⟨⟨#[]⟩,0,[],[]⟩) (ZO h)]
theorem zz:RM ⟨⟨#[]⟩,0,[],[]⟩:=⟨La _,La _,fun i h=>absurd h (by simp)⟩
theorem CG (c:vB) (h:Int) (a:Option Addr) (l:Nat) (k:List dA) (i:Int) (w:World) (C:oB w a k) (m:k.length+uA k<=1100000) (r:gB c h k=true):
 Calls prog 85 #[iD c,.agg #[.int .i64 h,.slice a k.length l],.int .i64 i] w fun e D=>fV (rY c h k i) w e D:=by
 obtain⟨d,b,f,g⟩:=xR m;obtain⟨-,hn0,hn1,y,-⟩:=oF r;have F:=bA (fun W (u:Below w.heap.size w W)=>eE c h a l k W (C.later u) b (by omega));have q:=bA (fun W (u:Below w.heap.size w W)=>xP c h a l k W (C.later u) r m);have G:Hid (∀W j,Below w.heap.size w W->0<=j->j<=1000000000000->Calls prog 127 #[iD c,.agg #[.int .i64 h,.slice a k.length l],.int .i64 j,.agg #[.string ⟨#[]⟩,.int .i64 0,.slice none 0 0,.slice none 0 0]] W fun e D=>∃M t,e=.returned (.agg #[.int .i64 j,.slice M (uC c.w j k).length t])/\oC D W.heap.size M (uC c.w j k)/\Below W.heap.size W D):=fun W j u q0 q1=>by
  have:=qZ c h j a l k ⟨⟨#[]⟩,0,[],[]⟩ none none 0 0 W (C.later u) (Ca rfl) (Ca rfl) (by omega) (fun x hx=>hx.elim (fun e=>e ▸ zz) (IP r m x)) q0 (by omega);rw[show(⟨⟨#[]⟩,0,[],[]⟩:dA).name.toList.isEmpty=true from by kernel_rfl,yh r]at this;exact this
 have I:(i<1\/¬i<1/\1000000000000-h<i)/\rY c h k i=(h,k,false)\/¬i<1/\¬1000000000000-h<i/\rY c h k i=(h+i,uC c.w (h+i) k,true):=by
  unfold rY;rw[Oa (by rw[r];simp)];by_cases A:i<1<;>by_cases H:1000000000000-h<i<;>simp[A,H]
 rw[r]at F;clear C m d b f g r y;unfold fV;unfold iD at *;have P:=bA (qX.new (w:=w) (c:=c) (now:=h) (a:=a) (n:=k.length) (cap:=l));generalize rY c h k i=V at *;rcases I with⟨A|⟨A,H⟩,E⟩|⟨A,H,E⟩
 all_goals
  have E:=bA E;go_enter func85,ntmps85;go_wp2_with(first
   |(go_at_call 78;refine(F.out _ P.out.B).mono ?_;rintro e wv ⟨rfl,o⟩;replace P:=bA (P.out.later o);clear o F;obtain⟨O,Q,R,S,T,U,X,Y,-,-,-,-,N⟩:=P.out.cells)
   |(go_at_call 117;refine(q.out _ P.out.B).mono ?_;rintro e w9 ⟨K,L,rfl,z,o⟩;have s:=bA (P.out.later o);have p:=bA z;clear z o O Q R S T U X Y q;obtain⟨-,-,-,-,-,-,-,-,Z,z1,g0,g1,J⟩:=s.out.cells)
   |(go_at_call 127;refine(G.out _ (h+i) P.out.B (by omega) (by omega)).mono ?_;rintro e w9 ⟨K,L,rfl,z,o⟩;have s:=bA (P.out.later o);have p:=bA z;clear z o O Q R S T U X Y q;obtain⟨-,-,-,-,-,-,-,-,Z,z1,g0,g1,J⟩:=s.out.cells))
  refine bodyPost_ret (v:=?_) (by simp[results,results85,go_sem,Z,z1];rfl) rfl ?_;rw[E.out];first
   |exact⟨K,⟨L,rfl⟩,s.out.done p.out N⟩
   |exact⟨K,L,rfl,s.out.done p.out N⟩
theorem ut:(prog.info? 136).map (fun i=>(i.zero,i.size,i.bytes))=some (some (.agg #[.int .i64 0,.string ⟨#[]⟩,.string ⟨#[]⟩,.string ⟨#[]⟩,.int .i64 0]),5,64):=by kernel_rfl
def CW (w:World) (B:Nat) (v:Value) (n:Nat) (l:List jM):Prop:=w.ownsRow B 136 5 v n (rO l)
theorem CW.later {w a:World} {B n:Nat} {v:Value} {l:List jM} (h:CW w B v n l) (b:Below w.heap.size w a):CW a B v n l:=vA h b
theorem CW.new (w:World):CW (w.alloc (.cells #[] 136)) w.heap.size (.slice (some ⟨w.heap.size,0,none⟩) 0 0) 0 []:=World.ownsRow_made w #[] 0 (Ka _) (by simp[maxLen]) (by simp)
theorem eo (l:List jM) (o:jM):rO (l++[o])=rO l++[.int .i64 o.kind,.string o.name,.string o.tq,.string o.data,.int .i64 o.size]:=by simp[rO]
theorem EK {A:Array Oper} {c:List Oper} {o:Oper} {a:Act} {Q:Exit->Act->World->Prop} {w:World} (u:o.guard=none) (s x:Operand)
 (H:o.op=.call { callee:=.builtin .append,args:=#[s,x],argTypes:=#[208,208] })
 (B n:Nat) (v:Value) (l:List jM) (k z:Int) (m p f:ByteArray) (I:a.eval s=v) (y:Hid (CW w B v n l)) (J:a.eval x=.slice (some ⟨w.heap.size,0,none⟩) 1 1) (K:n<=2000000) (F:B<=w.heap.size)
 (h:∀g b r,Hid (CW r B (.slice (some ⟨g,0,none⟩) (n+1) b) (n+1) (l++[⟨k,m,p,f,z⟩]))->Below B w r->wpList prog A Q c (a.put o.dst (.slice (some ⟨g,0,none⟩) (n+1) b)) r):
 wpList prog A Q (o::c) a (w.alloc (.cells #[.int .i64 k,.string m,.string p,.string f,.int .i64 z] 136)):=by
 obtain⟨i,G,C,D,E⟩:=info_parts ut;refine wpList_append_lies _ u s x _ H B 136 i _ 5 64 underlying208 G C D E rfl (by omega) v n (rO l) I (World.ownsRow.alloc y.out _) ⟨w.heap.size,0,none⟩ 1 1 [.int .i64 k,.string m,.string p,.string f,.int .i64 z] J rfl (by
  have:=World.news_of_block (cs:=#[.int .i64 k,.string m,.string p,.string f,.int .i64 z]) (t:=136) (fr:=(0,0)) (heap_alloc_new w (.cells #[.int .i64 k,.string m,.string p,.string f,.int .i64 z] 136));simpa using this) (by simp[Value.oneCell']) (by omega) (by simp[maxLen];omega) (by omega) (by simp;omega) (w.heap.size+1) (by simp) ?_
 intro g b r j d _ _;refine h g b r ?_ ?_
 ·show World.ownsRow _ _ _ _ _ _ _;rw[eo];exact j
 ·exact((cA _ _).mono F).trans ((gA.grown d).below (by simp;omega) (fun q L e=>by have:=(y.out.lt q e).1;omega))
def NK (r:Rd):lC×Rd:=
 (⟨((zA 1 r).1:Nat),(oA 1 (zA 1 r).2).1,(oA 2 (oA 1 (zA 1 r).2).2).1,jB (zA 8 (oA 2 (oA 1 (zA 1 r).2).2).2).1⟩,(zA 8 (oA 2 (oA 1 (zA 1 r).2).2).2).2)
theorem LS (r:Rd):(NK r).2=(zA 8 (oA 2 (oA 1 (zA 1 r).2).2).2).2:=by rw[NK]
theorem az (r:Rd):(NK r).1=⟨((zA 1 r).1:Nat),(oA 1 (zA 1 r).2).1,(oA 2 (oA 1 (zA 1 r).2).2).1,jB (zA 8 (oA 2 (oA 1 (zA 1 r).2).2).2).1⟩:=by rw[NK]
def zH (r:Rd) (k:Nat):List lC×Rd:=DY NK r k
theorem fX (r:Rd) (k:Nat):zH r (k+1)=((zH r k).1++[(NK (zH r k).2).1],(NK (zH r k).2).2):=rfl
theorem jW (r:Rd) (k:Nat):(zH r k).1.length=k:=lU k
def aV (s:ByteArray):Nat×Rd:=zA 8 ⟨s,false⟩
def JR (s:ByteArray):Nat×Rd:=zA 2 (aV s).2
def rK (s:ByteArray):List lC×Rd:=zH (JR s).2 (JR s).1
def uX (s:ByteArray):Int×List lC×Bool:=if (rK s).2.r9=false/\zG (jB (aV s).1) (rK s).1=s then(jB (aV s).1,(rK s).1,true) else(0,[],false)
theorem pw {r:Rd} (h:r.r9=true):(NK r).2.r9=true:=by
 rw[LS];exact bD (k:=8) (wF (k:=2) (wF (k:=1) (bD (k:=1) h)))
theorem pu {r:Rd} {k:Nat} (h:(zH r k).2.r9=true) (m:Nat) (a:k<=m):(zH r m).2.r9=true:=xM (fun _=>pw) h a
theorem ww {r:Rd} {x:lC} {q:ByteArray} (h:r.rest=GV x++q) (a:mK x) (i:AC x.num):NK r=(x,⟨q,r.r9⟩):=by
 have e:r.rest=fA 1 x.kind++(oK x.n9++(nD x.text++(fA 8 x.num++q))):=by rw[h];apply wK;simp[GV]
 have b:=jG e;have g:((jN (fA 1 x.kind).data.toList:Nat):Int)=x.kind:=by
  obtain⟨_,_,h|h|h⟩:=a
  ·rw[h.1];exact Fd Int.ofNat (cI 1 1 (by decide))
  ·rw[h.1];exact Fd Int.ofNat (cI 1 2 (by decide))
  ·rw[h];exact Fd Int.ofNat (cI 1 3 (by decide))
 have c:oA 1 (zA 1 r).2=(x.n9,⟨nD x.text++(fA 8 x.num++q),r.r9⟩):=by
  rw[b];exact qK (r:=⟨oK x.n9++(nD x.text++(fA 8 x.num++q)),r.r9⟩) (by show oK x.n9++(nD x.text++(fA 8 x.num++q))=_;apply wK;simp[oK]) (by have:=a.1;omega)
 have d:oA 2 (oA 1 (zA 1 r).2).2=(x.text,⟨fA 8 x.num++q,r.r9⟩):=by
  rw[c];exact qK (r:=⟨nD x.text++(fA 8 x.num++q),r.r9⟩) (by show nD x.text++(fA 8 x.num++q)=_;apply wK;simp[nD]) (by have:=a.2.1;omega)
 have f:zA 8 (oA 2 (oA 1 (zA 1 r).2).2).2=(jN (fA 8 x.num).data.toList,⟨q,r.r9⟩):=by
  rw[d];exact jG (r:=⟨fA 8 x.num++q,r.r9⟩) rfl
 unfold NK;rw[f,d,c,b];simp only[vN _ i,g]
theorem wu {r:Rd} {a:List lC} {q:ByteArray} (h:r.rest=qF a++q) (d:dg a) (c:MW a) (k:Nat) (b:k<=a.length):zH r k=(a.take k,⟨qF (a.drop k)++q,r.r9⟩):=BQ (e:=GV) (es:=qF) (fun _ _=>rfl) h (fun k b _ _ h=>ww h (d k b) (c k b).2) k b
theorem sj {a:Int} {b:List lC} (l:zQ a b) (m:MW b):jB (aV (zG a b)).1=a/\(JR (zG a b)).1=b.length/\rK (zG a b)=(b,⟨ByteArray.empty,false⟩):=by
 obtain⟨f,g,h,i,c⟩:=l;have j:(⟨zG a b,false⟩:Rd).rest=fA 8 a++(fA 2 (b.length:Nat)++(qF b++ByteArray.empty)):=by
  show zG a b=_;rw[AG ⟨f,g,h,i,c⟩];apply wK;simp[AH]
 have d:aV (zG a b)=_:=jG j;have e:JR (zG a b)=(b.length,⟨qF b++ByteArray.empty,false⟩):=by
  unfold JR;rw[d];have:=jG (k:=2) (r:=⟨fA 2 (b.length:Nat)++(qF b++ByteArray.empty),false⟩) (v:=(b.length:Nat)) rfl;rw[this,cI 2 _ (by omega)]
 refine⟨by rw[d];exact vN _ ⟨by omega,by omega⟩,by rw[e],?_⟩;unfold rK;rw[e];have:=wu (r:=⟨qF b++ByteArray.empty,false⟩) rfl c m b.length (Ka _);rw[this];simp[qF]
theorem aDy {s:ByteArray} {a:Int} {b:List lC} (d:s.size≠0) (g:MW b) (h:zG a b=s):uX s=(a,b,true):=by
 have c:zQ a b:=by
  by_cases c:zQ a b
  ·exact c
  ·rw[sW c]at h;rw[<-h]at d;exact absurd rfl d
 subst h;obtain⟨e,_,f⟩:=sj c g;unfold uX;rw[e,f,Qa ⟨rfl,rfl⟩]
theorem mm {s:ByteArray} (h:(rK s).2.r9=true):uX s=(0,[],false):=by
 unfold uX;rw[Oa];rw[h];simp
theorem aDx {s:ByteArray} (h:zG (jB (aV s).1) (rK s).1≠s):uX s=(0,[],false):=by
 unfold uX;rw[Oa];exact fun a=>h a.2
theorem aDw {s:ByteArray} (h:zG (jB (aV s).1) (rK s).1=s) (a:(rK s).2.r9=false):uX s=(jB (aV s).1,(rK s).1,true):=by
 unfold uX;rw[Qa ⟨a,h⟩]
def WF (r:Rd):lA×Rd:=(⟨(oA 2 r).1,jB (zA 8 (oA 2 r).2).1⟩,(zA 8 (oA 2 r).2).2)
theorem jy (r:Rd):(WF r).1=⟨(oA 2 r).1,jB (zA 8 (oA 2 r).2).1⟩:=by rw[WF]
theorem BP (r:Rd):(WF r).2=(zA 8 (oA 2 r).2).2:=by rw[WF]
def nF (r:Rd) (k:Nat):List lA×Rd:=DY WF r k
theorem DZ (r:Rd) (k:Nat):nF r (k+1)=((nF r k).1++[(WF (nF r k).2).1],(WF (nF r k).2).2):=rfl
theorem kR (r:Rd) (k:Nat):(nF r k).1.length=k:=lU k
def NY (r:Rd):ByteArray×Rd:=oA 1 r
def RC (r:Rd):Nat×Rd:=zA 8 (NY r).2
def VW (r:Rd):Nat×Rd:=zA 4 (RC r).2
def MV (r:Rd):List lA×Rd:=nF (VW r).2 (VW r).1
def VX (r:Rd):Nat×Rd:=zA 4 (MV r).2
def cq (r:Rd):List lA×Rd:=nF (VX r).2 (VX r).1
def cM (r:Rd):dA×Rd:=(⟨(NY r).1,jB (RC r).1,(MV r).1,(cq r).1⟩,(cq r).2)
theorem xy (r:Rd):(cM r).1=⟨(NY r).1,jB (RC r).1,(MV r).1,(cq r).1⟩:=by rw[cM]
theorem CL (r:Rd):(cM r).2=(cq r).2:=by rw[cM]
def pJ (r:Rd) (k:Nat):List dA×Rd:=DY cM r k
theorem EA (r:Rd) (k:Nat):pJ r (k+1)=((pJ r k).1++[(cM (pJ r k).2).1],(cM (pJ r k).2).2):=rfl
theorem lW (r:Rd) (k:Nat):(pJ r k).1.length=k:=lU k
def ckR (s:ByteArray):ByteArray×Rd:=uB 4 ⟨s,false⟩
def MU (s:ByteArray):Nat×Rd:=zA 8 (ckR s).2
def CE (s:ByteArray):Nat×Rd:=zA 8 (MU s).2
def scR (s:ByteArray):Nat×Rd:=zA 4 (CE s).2
def aF (s:ByteArray):List dA×Rd:=pJ (scR s).2 (scR s).1
theorem ao {r:Rd} (h:r.r9=true):(WF r).2.r9=true:=by
 rw[BP];exact bD (k:=8) (wF (k:=2) h)
theorem mU {r:Rd} {k:Nat} (h:(nF r k).2.r9=true) (m:Nat) (a:k<=m):(nF r m).2.r9=true:=xM (fun _=>ao) h a
theorem FV {r:Rd} (h:r.r9=true) (m:Nat):(nF r m).2.r9=true:=mU (k:=0) h m (La _)
theorem yi {r:Rd} (h:r.r9=true):(NY r).2.r9=true:=by rw[NY];exact wF h
theorem MR {r:Rd} (h:(NY r).2.r9=true):(RC r).2.r9=true:=by rw[RC];exact bD h
theorem LG {r:Rd} (h:(RC r).2.r9=true):(VW r).2.r9=true:=by rw[VW];exact bD h
theorem MS {r:Rd} (h:(VW r).2.r9=true):(MV r).2.r9=true:=by rw[MV];exact FV h _
theorem MH {r:Rd} (h:(MV r).2.r9=true):(VX r).2.r9=true:=by rw[VX];exact bD h
theorem MT {r:Rd} (h:(VX r).2.r9=true):(cq r).2.r9=true:=by rw[cq];exact FV h _
theorem QY {r:Rd} (h:r.r9=true):(cM r).2.r9=true:=by
 rw[CL];exact MT (MH (MS (LG (MR (yi h)))))
theorem LR {r:Rd} {k:Nat} (h:(pJ r k).2.r9=true) (m:Nat) (a:k<=m):(pJ r m).2.r9=true:=xM (fun _=>QY) h a
theorem QW {n:Nat} {r:Rd} (h:(uB n r).2.r9=false):(uB n r).2.rest.size+n=r.rest.size:=by
 unfold uB at *;split at h
 ·simp at h
 ·rename_i a;rw[Oa a];simp;omega
theorem tJ {k:Nat} {r:Rd} (h:(zA k r).2.r9=false):(zA k r).2.rest.size+k=r.rest.size:=by
 have e:(zA k r).2=(uB k r).2:=by rw[zA]
 rw[e]at *;exact QW h
theorem vM (k:Nat) (r:Rd):(zA k r).2.rest.size<=r.rest.size:=by
 have e:(zA k r).2=(uB k r).2:=by rw[zA]
 rw[e];exact(xG k r).2.2
theorem RA {k:Nat} {r:Rd} (h:(oA k r).2.r9=false):(oA k r).2.rest.size+k<=r.rest.size:=by
 rw[oA]at *;have a:(zA k r).2.r9=false:=by
  cases hs:(zA k r).2.r9 with
  |false=>rfl
  |true=>rw[sU hs]at h;exact h
 have b:=tJ a;have c:=(xG (zA k r).1 (zA k r).2).2.2;omega
theorem aBg {r:Rd} (h:(WF r).2.r9=false):(WF r).2.rest.size+10<=r.rest.size:=by
 rw[BP]at *;have a:(oA 2 r).2.r9=false:=by
  cases hs:(oA 2 r).2.r9 with
  |false=>rfl
  |true=>rw[bD (k:=8) hs]at h;exact h
 have b:=tJ h;have c:=RA a;omega
theorem aBe (r:Rd):(WF r).2.rest.size<=r.rest.size:=by
 rw[BP];have a:=(yG 2 r).2;have b:=vM 8 (oA 2 r).2;omega
theorem gQ (r:Rd) (k:Nat):(nF r k).2.rest.size<=r.rest.size:=ka aBe k
theorem pj {r:Rd} {k:Nat} (h:(nF r k).2.r9=false):(nF r k).2.rest.size+10*k<=r.rest.size:=au (fun _=>ao) (fun _=>aBg) h
theorem xw (r:Rd):(cM r).2.rest.size<=r.rest.size:=by
 rw[CL];have a:(NY r).2.rest.size<=r.rest.size:=by rw[NY];exact(yG 1 r).2
 have b:(RC r).2.rest.size<=(NY r).2.rest.size:=by rw[RC];exact vM 8 _
 have c:(VW r).2.rest.size<=(RC r).2.rest.size:=by rw[VW];exact vM 4 _
 have d:(MV r).2.rest.size<=(VW r).2.rest.size:=by rw[MV];exact gQ _ _
 have e:(VX r).2.rest.size<=(MV r).2.rest.size:=by rw[VX];exact vM 4 _
 have f:(cq r).2.rest.size<=(VX r).2.rest.size:=by rw[cq];exact gQ _ _
 omega
theorem wm (r:Rd) (k:Nat):(pJ r k).2.rest.size<=r.rest.size:=ka xw k
theorem ya {r:Rd} (h:(cM r).2.r9=false):(cM r).2.rest.size+17<=r.rest.size:=by
 rw[CL]at *;have c:∀{a b:Bool},(a=true->b=true)->b=false->a=false:=fun {a b} h c=>by cases a;rfl;rw[h rfl]at c;exact c
 have f:=c MT h;have i:=c MH f;have e:=c MS i;have d:=c LG e;have g:=c MR d;have j:(NY r).2.rest.size+1<=r.rest.size:=by rw[NY]at g |-;exact RA (k:=1) g
 have l:(RC r).2.rest.size+8=(NY r).2.rest.size:=by rw[RC]at d |-;exact tJ (k:=8) d
 have m:(VW r).2.rest.size+4=(RC r).2.rest.size:=by rw[VW]at e |-;exact tJ (k:=4) e
 have n:(MV r).2.rest.size<=(VW r).2.rest.size:=by rw[MV];exact gQ _ _
 have o:(VX r).2.rest.size+4=(MV r).2.rest.size:=by rw[VX]at f |-;exact tJ (k:=4) f
 have p:(cq r).2.rest.size<=(VX r).2.rest.size:=by rw[cq];exact gQ _ _
 omega
theorem rS (r:Rd):pJ r 0=([],r):=rfl
theorem pm {r:Rd} (k:Nat) (h:(pJ r k).2.r9=false):(pJ r k).2.rest.size+17*k<=r.rest.size:=au (fun _=>QY) (fun _=>ya) h
theorem aBf {r:Rd} {x:lA} {q:ByteArray} (h:r.rest=vX x++q) (d:x.s.size<=65535) (b:uY x.n):WF r=(x,⟨q,r.r9⟩):=by
 have a:oA 2 r=(x.s,⟨fA 8 x.n++q,r.r9⟩):=qK (by rw[h];apply wK;simp[vX,nD]) (by omega);have c:zA 8 (oA 2 r).2=(jN (fA 8 x.n).data.toList,⟨q,r.r9⟩):=by rw[a];exact jG (r:=⟨fA 8 x.n++q,r.r9⟩) rfl
 unfold WF;rw[c,a];simp only[vN x.n ⟨b.1,b.2⟩]
theorem pt {r:Rd} {a:List lA} {q:ByteArray} (h:r.rest=tC a++q) (d:JG a) (c:RR a) (k:Nat) (b:k<=a.length):nF r k=(a.take k,⟨tC (a.drop k)++q,r.r9⟩):=BQ (e:=vX) (es:=tC) (fun _ _=>rfl) h (fun k b _ _ h=>aBf h (d k b) (c k b)) k b
theorem ax {a:List lA} {q:ByteArray} {b:Bool} (d:JG a) (c:RR a):nF ⟨tC a++q,b⟩ a.length=(a,⟨q,b⟩):=by
 rw[pt (r:=⟨tC a++q,b⟩) rfl d c a.length (Ka _)];simp[tC]
theorem UP {k:Nat} {v:Nat} {q:ByteArray} {b:Bool} (h:v<256 ^ k):zA k ⟨fA k (v:Nat)++q,b⟩=(v,⟨q,b⟩):=by
 have:=jG (k:=k) (r:=⟨fA k (v:Nat)++q,b⟩) (v:=(v:Nat)) rfl;rw[this,cI k _ h]
theorem xz {r:Rd} {t:dA} {q:ByteArray} (h:r.rest=eL t++q) (a:fH t) (e:uY t.l9) (j:RR t.m9) (l:RR t.s9) (m:t.m9.length<4294967296) (n:t.s9.length<4294967296):cM r=(t,⟨q,r.r9⟩):=by
 have b:NY r=(t.name,⟨fA 8 t.l9++(fA 4 (t.m9.length:Nat)++(tC t.m9++(fA 4 (t.s9.length:Nat)++(tC t.s9++q)))),r.r9⟩):=
  qK (by rw[h];apply wK;simp[eL,CJ,oK]) (by have:=a.1;omega)
 have c:RC r=(jN (fA 8 t.l9).data.toList,⟨fA 4 (t.m9.length:Nat)++(tC t.m9++(fA 4 (t.s9.length:Nat)++(tC t.s9++q))),r.r9⟩):=by
  unfold RC;rw[b];exact jG (k:=8) (r:=⟨_,_⟩) rfl
 have f:VW r=(t.m9.length,⟨tC t.m9++(fA 4 (t.s9.length:Nat)++(tC t.s9++q)),r.r9⟩):=by
  unfold VW;rw[c];exact UP (by omega)
 have d:MV r=(t.m9,⟨fA 4 (t.s9.length:Nat)++(tC t.s9++q),r.r9⟩):=by
  unfold MV;rw[f];exact ax a.2.1 j
 have g:VX r=(t.s9.length,⟨tC t.s9++q,r.r9⟩):=by
  unfold VX;rw[d];exact UP (by omega)
 have i:cq r=(t.s9,⟨q,r.r9⟩):=by
  unfold cq;rw[g];exact ax a.2.2 l
 unfold cM;rw[b,c,d,i];simp only[vN t.l9 ⟨e.1,e.2⟩]
theorem pv {r:Rd} {a:List dA} {q:ByteArray} (h:r.rest=iC a++q) (f:∀i (h:i<a.length),fH a[i]) (c:WJ a) (d:∀i (h:i<a.length),a[i].m9.length<4294967296/\a[i].s9.length<4294967296) (k:Nat) (b:k<=a.length):pJ r k=(a.take k,⟨iC (a.drop k)++q,r.r9⟩):=BQ (e:=eL) (es:=iC) (fun _ _=>rfl) h (fun k b _ _ h=>xz h (f k b) (c k b).1 (c k b).2.1 (c k b).2.2 (d k b).1 (d k b).2) k b
theorem xp {b a:Int} {c:List dA} (d:bT b c) (hw:uY a) (o:WJ c) (p:c.length<4294967296) (m:∀i (h:i<c.length),c[i].m9.length<4294967296/\c[i].s9.length<4294967296):
 jB (MU (xE b a c)).1=b/\jB (CE (xE b a c)).1=a/\(scR (xE b a c)).1=c.length/\(aF (xE b a c)).1=c/\(aF (xE b a c)).2.r9=false:=by
 have l:ckR (xE b a c)=(tf,⟨fA 8 b++(fA 8 a++(fA 4 (c.length:Nat)++(iC c++fA 4 (bG (gH b a c):Nat)))),false⟩):=
  dT (n:=4) (r:=⟨xE b a c,false⟩) (by show xE b a c=_;rw[nR d];apply wK;simp[gH,mX]) rfl
 have f:MU (xE b a c)=(jN (fA 8 b).data.toList,⟨fA 8 a++(fA 4 (c.length:Nat)++(iC c++fA 4 (bG (gH b a c):Nat))),false⟩):=by
  unfold MU;rw[l];exact jG (k:=8) (r:=⟨_,_⟩) rfl
 have g:CE (xE b a c)=(jN (fA 8 a).data.toList,⟨fA 4 (c.length:Nat)++(iC c++fA 4 (bG (gH b a c):Nat)),false⟩):=by
  unfold CE;rw[f];exact jG (k:=8) (r:=⟨_,_⟩) rfl
 have e:scR (xE b a c)=(c.length,⟨iC c++fA 4 (bG (gH b a c):Nat),false⟩):=by
  unfold scR;rw[g];exact UP (by omega)
 have j:=pv (r:=⟨iC c++fA 4 (bG (gH b a c):Nat),false⟩) rfl d.2.2 o m c.length (Ka _);refine⟨by rw[f];exact vN b ⟨by have:=d.1;omega,by have:=d.2.1;omega⟩,by rw[g];exact vN a ⟨hw.1,hw.2⟩,by rw[e],?_,?_⟩
 ·unfold aF;rw[e,j];simp
 ·unfold aF;rw[e,j]
theorem jk (B P:Nat) (a:Option Addr) (m g n i:Nat) (w:World) (k:gO w B P a m) (y:m<=1048576) (u:1<=n) (z:n<=256) (x:i<=1000):
 Calls prog 16 #[.slice a m g,.int .i64 (i:Nat),.int .i64 (n:Nat)] w fun e t=>∃v:Nat,v<n/\e=.returned (.int .i64 (v:Nat))/\t=w:=by
 by_cases d:m=0
 ·subst d;clear k;go_enter func16,ntmps16;go_wp2;go_ret;exact⟨0,by omega,rfl,rfl⟩
 ·rcases k with h|⟨b,o,rfl,_,_,l⟩
  ·exact absurd h d
  have f:i % m<m:=Nat.mod_lt _ (by omega);have s:(i:Int) % (m:Int)=((i % m:Nat):Int):=by push_cast;rfl
  obtain⟨v,A,c⟩:=l (i % m) f;clear l;generalize i % m=q at s f c;have p:(0:Int)<(m:Int):=by omega
  by_cases r:n<=1
  ·have j:(n:Int)<=1:=by omega
   go_enter func16,ntmps16;go_wp2;go_ret;exact⟨0,by omega,rfl,rfl⟩
  ·have j:¬((n:Int)<=1):=by omega
   go_enter func16,ntmps16;go_wp2;go_ret;exact⟨v % n,Nat.mod_lt _ (by omega),rfl,rfl⟩
