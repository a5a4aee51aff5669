import Derived.Test.YtcneojllbkacoaaGreatDoorJ27SKept
import Derived.Test.YtcneojllbkacoaaGreatDoorJ28ICnt
set_option maxRecDepth 100000
set_option maxHeartbeats 8000000
namespace Go.Proofs.YtcneojllbkacoaaGreatDoor
open Go.RowKit
theorem aHk (lf ll ls:Int) (w:World):
 Calls Tryz.prog 27 #[.agg #[.int .i64 lf,.int .i64 ll,.int .i64 ls]] w fun e w'=>e=.returned (.agg #[.int .i64 lf,.int .i64 ll,.int .i64 ls])∧Below w.heap.size w w':=by
 go_enter Tryz.func27,Tryz.ntmps27;go_wp2;refine bodyPost_ret (v:=.agg #[.int .i64 lf,.int .i64 ll,.int .i64 ls]) (by simp [results,Tryz.results27,go_sem]) rfl ⟨rfl,?_⟩;first
  | exact rA (rA (bA _ _) (bA _ _)) (bA _ _)
  | (repeat (first | with_reducible refine Below.setCell ?_ (by first | (simp;done) | (simp;omega)) _)
     exact rA (rA (bA _ _) (bA _ _)) (bA _ _))
def cK (r:pC):Prop:=r.tenant.size≤255∧r.text.size≤65535∧((r.kind=1∧r.num=0)∨(r.kind=2∧r.tenant.size=0∧r.text.size=0)∨r.kind=3)
def rcD (r:pC):Decidable (cK r):=by unfold cK;infer_instance
def WE (r:pC):Bool:=@decide (cK r) (rcD r)
theorem MD {r:pC} (h:cK r):WE r=true:=@decide_eq_true _ (rcD r) h
theorem jU {r:pC} (h:¬cK r):WE r=false:=@decide_eq_false _ (rcD r) h
def OD (r:pC):ByteArray:=nC 1 r.kind++kY r.tenant++iJ r.text++nC 8 r.num
def rI:List pC→ByteArray
 | []=>ByteArray.empty
 | r :: q=>OD r++rI q
def aDj (rs:List pC):Prop:=∀i (h:i<rs.length),cK rs[i]
def zT (lsn:Int) (rs:List pC):Prop:=1≤lsn∧lsn≤1000000000000000∧1≤rs.length∧rs.length≤500∧aDj rs
def CX (lsn:Int) (n:Nat):ByteArray:=nC 8 lsn++nC 2 (n:Nat)
def aPr (lsn:Int) (rs:List pC):Decidable (zT lsn rs):=by unfold zT aDj cK;infer_instance
def eJ (lsn:Int) (rs:List pC):ByteArray:=haveI:=aPr lsn rs;if zT lsn rs then CX lsn rs.length++rI rs else ByteArray.empty
theorem NI {lsn:Int}{rs:List pC} (h:zT lsn rs):eJ lsn rs=CX lsn rs.length++rI rs:=by unfold eJ;rw [if_pos h]
theorem nO {lsn:Int}{rs:List pC} (h:¬zT lsn rs):eJ lsn rs=ByteArray.empty:=by unfold eJ;rw [if_neg h]
theorem mW:∀(a b:List pC),rI (a++b)=rI a++rI b
 | [],b=>by simp [rI]
 | r :: q,b=>by
   show OD r++rI (q++b)=OD r++rI q++rI b;rw [mW q b,ByteArray.append_assoc]
theorem YS (rs:List pC) (k:Nat) (h:k<rs.length):rI (rs.take (k+1))=rI (rs.take k)++OD rs[k]:=by
 rw [List.take_succ_eq_append_getElem h,mW];simp [rI]
theorem aEl (r:pC):(OD r).size=12+r.tenant.size+r.text.size:=by
 unfold OD;rw [ByteArray.size_append,ByteArray.size_append,ByteArray.size_append,yB,yB,vS,dQ];omega
theorem NJ (lsn:Int) (n:Nat):(CX lsn n).size=10:=by unfold CX;rw [ByteArray.size_append,yB,yB]
theorem aBt {rs:List pC}{k:Nat} (hk:k<rs.length) (h:¬cK rs[k]) (lsn:Int):eJ lsn rs=ByteArray.empty:=nO fun hb=>h (hb.2.2.2.2 k hk)
theorem kZ {c:eC}:∀{rs:List pC}{now:Int}{ts:List cA},vB c now ts=true→(eF c now ts rs).2.1.length+nA (eF c now ts rs).2.1≤ts.length+nA ts+2 * rs.length+uB rs
 | [],now,ts,_=>by simp [eF,uB]
 | r :: rs,now,ts,h=>by
   have h1:=uV h r;rw [eF];simp only [List.length_cons,uB];split
   ·rename_i hs;have h2:=kZ (rs:=rs) (GS h hs);omega
   ·show (gD c now ts r).2.1.length+nA (gD c now ts r).2.1≤_;omega
theorem MG {c:eC}{now:Int}{ts:List cA}{rs:List pC}{k:Nat} (hk:k<rs.length) (hs:(gD c now ts rs[k]).2.2=true):eF c now ts (rs.drop k)=eF c (gD c now ts rs[k]).1 (gD c now ts rs[k]).2.1 (rs.drop (k+1)):=by
 rw [List.drop_eq_getElem_cons hk,eF,if_pos hs]
theorem MH {c:eC}{now:Int}{ts:List cA}{rs:List pC}{k:Nat} (hk:k<rs.length) (hs:(gD c now ts rs[k]).2.2=false):eF c now ts (rs.drop k)=((gD c now ts rs[k]).1,(gD c now ts rs[k]).2.1,false):=by
 rw [List.drop_eq_getElem_cons hk,eF,if_neg (by rw [hs];decide)]
theorem uX (rs:List pC){k:Nat} (hk:k<rs.length):uB (rs.drop k)=rs[k].tenant.size+rs[k].text.size+uB (rs.drop (k+1)):=by
 rw [List.drop_eq_getElem_cons hk,uB]
def sK:List ByteArray→ByteArray
 | []=>ByteArray.empty
 | x :: r=>x++sK r
theorem xZ:∀(a b:List ByteArray),sK (a++b)=sK a++sK b
 | [],b=>by simp [sK]
 | x :: r,b=>by
   show x++sK (r++b)=x++sK r++sK b;rw [xZ r b,ByteArray.append_assoc]
theorem aIe (xs:List ByteArray):(sK xs).data.toList=(xs.map (·.data.toList)).flatten:=by
 induction xs with
 | nil=>rfl
 | cons x r ih=>simp [sK,ih]
theorem UT (xs:List ByteArray):Lib.join (xs.map (·.data.toList)) ByteArray.empty.data.toList=(sK xs).data.toList:=by
 have e:ByteArray.empty.data.toList=[]:=rfl;rw [aIe,e];cases xs with
 | nil=>rfl
 | cons x r=>
   rw [List.map_cons,Lib.join_cons,Lib.joinTail];simp;rfl
theorem aLr (xs:List ByteArray):(⟨(Lib.join (xs.map (·.data.toList)) ByteArray.empty.data.toList).toArray⟩:ByteArray)=sK xs:=by
 rw [UT]
def aS:List ByteArray→Nat
 | []=>0
 | x :: r=>x.size+aS r
theorem KA:∀(xs:List ByteArray),(sK xs).size=aS xs
 | []=>rfl
 | x :: r=>by rw [sK,ByteArray.size_append,KA r,aS]
theorem BT:∀(a b:List ByteArray),aS (a++b)=aS a+aS b
 | [],b=>by simp [aS]
 | x :: r,b=>by show x.size+aS (r++b)=x.size+aS r+aS b;rw [BT r b];omega
theorem ZI (n:Nat) (w:World):Calls Tryz.prog 74 #[.int .i64 (n:Nat)] w fun e w'=>e=.returned (.string (nC 1 (n:Nat)))∧Below w.heap.size w w':=by
 have HC:Hid (∀W,Calls Tryz.prog 117 #[.int .i64 (n:Nat),.int .i64 1] W fun e w'=>e=.returned (.string (nC 1 (n:Nat)))∧Below W.heap.size W w'):=fun W=>bH 1 (n:Nat) W (by omega);generalize nC 1 (n:Nat)=N at *;go_enter Tryz.func74,Tryz.ntmps74;go_wp2_with fail;refine (HC.out _).mono ?_;rintro e w1 ⟨rfl,hb1⟩;have HB:Hid _:=hb1;clear hb1;go_wp2;go_ret;exact ⟨rfl,HB.out⟩
theorem eV (g n cap:Nat) (xs:List ByteArray) (w:World) (hn:n=xs.length) (hc:∀(j:Nat) x,xs[j]?=some x→w.cell? ⟨g,0+j,none⟩=some (.string x)) (hg:g<w.heap.size) (hcap:xs.length≤cap) (hl:xs.length≤1000000000) (hz:aS xs≤140737488355328):
 Calls Tryz.prog 77 #[.slice (some ⟨g,0,none⟩) n cap] w fun e w'=>e=.returned (.string (sK xs))∧Below w.heap.size w w':=by
 subst hn;have HC:Hid (Calls Tryz.prog 118 #[.slice (some ⟨g,0,none⟩) xs.length cap,.string ByteArray.empty] w fun e w'=>e=.returned (.string (sK xs))∧Below w.heap.size w w'):=by
  have h:=Tryz.strings_Join g 0 cap xs ByteArray.empty w hc hg (by omega) hcap (by rw [UT,←Lib.size_eq,KA];exact hz);rw [aLr] at h;exact h
 clear hc hz;generalize sK xs=C at *;generalize xs.length=n at *;go_enter Tryz.func77,Tryz.ntmps77;go_wp2_with fail;refine HC.out.mono ?_;rintro e w1 ⟨rfl,hb1⟩;have HB:Hid _:=hb1;clear hb1;go_wp2;go_ret;exact ⟨rfl,HB.out⟩
theorem MR {W:World}{x y:ByteArray}{t:TypeId}:∀(j:Nat) z,[x,y][j]?=some z→(W.alloc (.cells #[.string x,.string y] t)).cell? ⟨W.heap.size,0+j,none⟩=some (.string z):=by
 intro j z h;rw [cell_of_row _ W.heap.size _ _ _ _ (heap_alloc_new _ _),Nat.zero_add];match j,h with
 | 0,h=>simp at h;simp [h]
 | 1,h=>simp at h;simp [h]
 | j+2,h=>simp at h
theorem ZH (s:ByteArray) (w:World) (hs:s.size≤1000000000):Calls Tryz.prog 75 #[.string s] w fun e w'=>e=.returned (.string (kY s))∧Below w.heap.size w w':=by
 have HU:Hid _:=fun W=>ZI s.size W;have hz:=yB 1 (s.size:Nat);unfold kY;generalize nC 1 (s.size:Nat)=N at *;have HJ:Hid (∀W:World,Calls Tryz.prog 77 #[.slice (some ⟨W.heap.size,0,none⟩) 2 2] (W.alloc (.cells #[.string N,.string s] 9)) fun e w'=>e=.returned (.string (N++s))∧Below (W.alloc (.cells #[.string N,.string s] 9)).heap.size (W.alloc (.cells #[.string N,.string s] 9)) w'):=fun W=>by
  have h:=eV W.heap.size 2 2 [N,s] (W.alloc (.cells #[.string N,.string s] 9)) rfl MR (by simp) (by simp) (by simp) (by simp [aS];omega);have e:sK [N,s]=N++s:=by simp [sK]
  rw [e] at h;exact h
 go_enter Tryz.func75,Tryz.ntmps75;go_wp2_with fail;refine (HU.out _).mono ?_;rintro e w1 ⟨rfl,hb1⟩;have HB:Hid _:=hb1;clear hb1;go_wp2_with fail;refine (HJ.out _).mono ?_;rintro e w2 ⟨rfl,hb2⟩;have HB2:Hid _:=rA (rA HB.out (bA _ _)) hb2;clear hb2;go_wp2;go_ret;exact ⟨rfl,HB2.out⟩
theorem UE (s:ByteArray) (w:World) (hs:s.size≤1000000000):Calls Tryz.prog 76 #[.string s] w fun e w'=>e=.returned (.string (iJ s))∧Below w.heap.size w w':=by
 have HU:Hid (∀W,Calls Tryz.prog 117 #[.int .i64 (s.size:Nat),.int .i64 2] W fun e w'=>e=.returned (.string (nC 2 (s.size:Nat)))∧Below W.heap.size W w'):=fun W=>bH 2 (s.size:Nat) W (by omega);have hz:=yB 2 (s.size:Nat);unfold iJ;generalize nC 2 (s.size:Nat)=N at *;have HJ:Hid (∀W:World,Calls Tryz.prog 77 #[.slice (some ⟨W.heap.size,0,none⟩) 2 2] (W.alloc (.cells #[.string N,.string s] 9)) fun e w'=>e=.returned (.string (N++s))∧Below (W.alloc (.cells #[.string N,.string s] 9)).heap.size (W.alloc (.cells #[.string N,.string s] 9)) w'):=fun W=>by
  have h:=eV W.heap.size 2 2 [N,s] (W.alloc (.cells #[.string N,.string s] 9)) rfl MR (by simp) (by simp) (by simp) (by simp [aS];omega);have e:sK [N,s]=N++s:=by simp [sK]
  rw [e] at h;exact h
 go_enter Tryz.func76,Tryz.ntmps76;go_wp2_with fail;refine (HU.out _).mono ?_;rintro e w1 ⟨rfl,hb1⟩;have HB:Hid _:=hb1;clear hb1;go_wp2_with fail;refine (HJ.out _).mono ?_;rintro e w2 ⟨rfl,hb2⟩;have HB2:Hid _:=rA (rA HB.out (bA _ _)) hb2;clear hb2;go_wp2;go_ret;exact ⟨rfl,HB2.out⟩
end Go.Proofs.YtcneojllbkacoaaGreatDoor
namespace Go.Proofs.YtcneojllbkacoaaGreatDoor
open Go.RowKit Go.Maps
theorem aNk {L:List (cA×Nat)}{ts:List cA} (e:L.map (·.1)=ts) (k:ByteArray):cB (·.name) k ts=(cB (fun p:cA×Nat=>p.1.name) k L).map (·.1):=by
 subst e;exact wK (key:=fun p:cA×Nat=>p.1.name) (key':=(·.name)) (·.1) (fun _=>rfl) k L
theorem VE {w:World}{cm M:Nat}{D:DataW Unit}{m:ByteArray}{n:Nat} (h:w.ownsMap Tryz.prog 9 (plainElem Tryz.prog 3) cm M D) (hc:D.atKey (kL m) (uF 0)=uF n) (hm:m.size≤maxLen):
 (Instr.lookup 223 (.map (some cm)) (.string m) false).run Tryz.prog w=.ok (.int .i64 n) w:=by
 obtain ⟨v,hrun,hat,_⟩:=h.lookup_int zG Tryz.underlying223 Tryz.underlying3 (DC _) (uI hm);rw [hrun];have:(uF v:DataW Unit)=uF n:=hat.symm.trans hc;simp [uF] at this;rw [this]
theorem dV (s:ByteArray) (w:World) (hs:s.size≤1000000000) (hT:wF w):Calls Tryz.prog 196 #[.string s] w fun e w'=>e=.returned (.bool (s.toList.isEmpty||oD s))∧Below w.heap.size w w':=by
 have HM:Hid (Calls Tryz.prog 187 #[.string s] w fun e w'=>e=.returned (.bool (oD s))∧Below w.heap.size w w'):=vP s w hs hT;clear hT;by_cases h0:s.toList.isEmpty=true
 ·have HV:Hid ((s.toList.isEmpty||oD s)=true):=by show _=_;rw [h0];rfl
  go_enter Tryz.func196,Tryz.ntmps196;go_wp2;go_ret;exact ⟨jA (by rw [HV.out]),Below.refl _ _⟩
 ·have h1:s.toList.isEmpty=false:=by simpa using h0
  have HV:Hid ((s.toList.isEmpty||oD s)=oD s):=by show _=_;rw [h1];rfl
  clear h0;go_enter Tryz.func196,Tryz.ntmps196;go_wp2_with fail;refine HM.out.mono ?_;rintro e w1 ⟨rfl,hb⟩;have HB:=iA hb;clear hb;go_wp2;go_ret;exact ⟨jA (by rw [HV.out]),HB.out⟩
theorem dA.mapped {w w':World}{b:Nat} (h:w.mapTurned w' b):dA (·=b) w w':=(dA.grown h.grown).mono fun i _ e=>by simp only [Option.some.injEq] at e;exact e.symm
theorem wM.newLimit {w w':World}{S:Nat→Prop}{x:Nat}{t:cA}{M lm sm cm:Nat}{iv:Value}{Q:List (gA×Nat)}{hs:List rF}{D:DataW Unit}{limit:Int} (h:wM w S x t M lm sm cm iv Q hs D) (ht:dA (·=x) w w')
 (hb:lA w' x #[.int .i64 limit,.map (some lm),.map (some sm),.map (some cm),iv] 229):zB w' S x ⟨t.name,limit,t.mets,t.sers⟩ M:=by
 refine ⟨lm,sm,cm,iv,Q,hs,D,?_⟩;exact { h with
  blk:=hb
  lims:=ht.map h.lims (nB h.lims h.blk)
  sers:=ht.map h.sers (nB h.sers h.blk)
  cnts:=ht.map h.cnts (nB h.cnts h.blk)
  cells:=fun q hq=>ht.blk (h.cells q hq) (h.dx q hq)
  row:=ht.row h.row (fun g hg e=>(h.di g hg).1 e) }
theorem XU (x:Nat) (metric:ByteArray) (limit:Int) (t:cA) (S:Nat→Prop) (M:Nat) (w:World) (h:zB w S x t M) (hm:metric.size≤maxLen) (hl0 : -1≤limit) (hl1:limit≤1000000) (hlen:t.mets.length≤1000000000):
 Calls Tryz.prog 197 #[.pointer (some ⟨x,0,none⟩),.string metric,.int .i64 limit] w fun e w'=>e=.returned (.tuple #[])∧zB w' S x (cF t metric limit) M∧dA S w w':=by
 obtain ⟨lm,sm,cm,iv,Q,hs,D,h⟩:=h;by_cases h0:metric.toList.isEmpty=true
 ·have HV:Hid (cF t metric limit=⟨t.name,limit,t.mets,t.sers⟩):=by show _=_;unfold cF;rw [if_pos h0]
  have c0:w.cell? ⟨x,0,none⟩=some (.int .i64 t.limit):=h.blk.cell 0;have f0:=h.blk.free 0;have ht:dA (·=x) w (w.setCell ⟨x,0,none⟩ (.int .i64 limit)):=(dA.refl (·=x) w).setCell (Or.inl rfl) 0 _;have hb:lA (w.setCell ⟨x,0,none⟩ (.int .i64 limit)) x #[.int .i64 limit,.map (some lm),.map (some sm),.map (some cm),iv] 229:=by have:=h.blk.set 0 (.int .i64 limit);simpa using this
  have HN:Hid (zB (w.setCell ⟨x,0,none⟩ (.int .i64 limit)) S x (cF t metric limit) M):=by
   refine iA ?_;rw [HV.out];exact h.newLimit ht hb
  have HT:Hid (dA S w (w.setCell ⟨x,0,none⟩ (.int .i64 limit))):=ht.mono fun i _ e=>by subst e;exact h.sx
  clear h ht hb HV;go_enter Tryz.func197,Tryz.ntmps197;go_wp2;go_end0;exact ⟨rfl,HN.out,HT.out⟩
 have h0':metric.toList.isEmpty=false:=by simpa using h0
 have c1:w.cell? ⟨x,1,none⟩=some (.map (some lm)):=h.blk.cell 1;have HK:Hid _:=uI hm;by_cases h1:limit = -1
 ·have HV:Hid (cF t metric limit={ t with mets:=aD (·.s) metric t.mets}):=by show _=_;unfold cF;rw [if_neg h0,if_pos (by omega)]
  have HH:=iA h;clear h0 h;subst h1;go_enter Tryz.func197,Tryz.ntmps197;go_wp2_with (at_delete;refine wpList_delete_own _ rfl _ _ 223 9 rfl 3 zG Tryz.underlying223 (plainElem Tryz.prog 3) lm _ _ rfl HH.out.lims _ _ rfl HK.out ?_;intro w1 hown1 hturn1);have ht:=dA.mapped hturn1;have HN:Hid (zB w1 S x (cF t metric (-1)) M):=by
   refine iA ?_;rw [HV.out];exact HH.out.newLims ht hown1 (OA (key:=fun p:gA=>p.s) (fun p=>uF p.n) metric t.mets) (tK HH.out.rm)
  have HT:Hid (dA S w w1):=ht.mono fun i _ e=>by subst e;exact HH.out.sl
  clear hown1 hturn1 ht;go_end0;exact ⟨rfl,HN.out,HT.out⟩
 ·have HV:Hid (cF t metric limit={ t with mets:=tA (·.s) ⟨metric,limit⟩ t.mets}):=by show _=_;unfold cF;rw [if_neg h0,if_neg (by omega)]
  obtain ⟨w1,run1,own1,tn1⟩:=h.lims.store zG Tryz.underlying223 (by unfold maxLen;omega) (val:=.int .i64 limit) HK.out (plainElem_int Tryz.underlying3 (WalkArith.wf_i64 (by omega)));have ht:=dA.mapped tn1;have HN:Hid (zB w1 S x (cF t metric limit) M):=by
   refine iA ?_;rw [HV.out];exact h.newLims ht own1 (fZ (key:=fun p:gA=>p.s) (fun p=>uF p.n) ⟨metric,limit⟩ h.rm) (dH h.rm)
  have HT:Hid (dA S w w1):=ht.mono fun i _ e=>by subst e;exact h.sl
  clear h own1 tn1 ht HV h0;go_enter Tryz.func197,Tryz.ntmps197;go_wp2;go_end0;exact ⟨rfl,HN.out,HT.out⟩
theorem TM (l m:Nat) (c:eC) (now:Int) (B:Nat) (T:Nat→Option Nat) (L:List (cA×Nat)) (M:Nat) (w:World) (h:vI w B T l m c now L M):
 Calls Tryz.prog 193 #[.pointer (some ⟨l,0,none⟩)] w fun e w'=>e=.returned (.bool (decide (10000≤L.length)))∧w'=w:=by
 have c7:w.cell? ⟨l,7,none⟩=some (.map (some m)):=h.blk.cell 7;have l1:=h.ten.len Tryz.underlying166 3;rw [oI] at l1;clear h;by_cases hl:10000≤L.length
 ·have HV:Hid (decide (10000≤L.length)=true):=by show _=_;simpa using hl
  generalize L.length=z at *;have hz:¬((z:Int)<10000):=by omega
  go_enter Tryz.func193,Tryz.ntmps193;go_wp2;go_ret;exact ⟨jA (by first | (rw [HV.out];simp;omega) | (simp;omega) | simp),rfl⟩
 ·have HV:Hid (decide (10000≤L.length)=false):=by show _=_;simpa using hl
  generalize L.length=z at *;have hz:(z:Int)<10000:=by omega
  go_enter Tryz.func193,Tryz.ntmps193;go_wp2;go_ret;exact ⟨jA (by first | (rw [HV.out];simp;omega) | (simp;omega) | simp),rfl⟩
theorem lN {α β:Type}{f:α→β}{l:List α} (h:(l.map f).Nodup){p q:α} (hp:p∈l) (hq:q∈l) (e:f p=f q):p=q:=by
 induction l with
 | nil=>cases hp
 | cons a r ih=>
   rw [List.map_cons,List.nodup_cons] at h;rcases List.mem_cons.1 hp with hp' | hp'
   ·rcases List.mem_cons.1 hq with hq' | hq'
    ·rw [hp',hq']
    ·refine absurd ?_ h.1;rw [←hp',e];exact List.mem_map.2 ⟨q,hq',rfl⟩
   ·rcases List.mem_cons.1 hq with hq' | hq'
    ·refine absurd ?_ h.1;rw [←hq',←e];exact List.mem_map.2 ⟨p,hp',rfl⟩
    ·exact ih h.2 hp' hq'
theorem PA {w w1 w2:World}{B:Nat}{T:Nat→Option Nat}{l m n:Nat}{c:eC}{now:Int}{L:List (cA×Nat)}{M M':Nat}{p:cA×Nat}{t':cA} (h:vI w B T l m c now L M) (hB:B≤w.heap.size) (hp:p∈L) (hn:t'.name=p.1.name)
 (t1:dA (fun g=>B≤g∧T g=some p.2) w w1) (hi:zB w1 (fun g=>(B≤g∧T g=some p.2)∨w.heap.size≤g) p.2 t' M') (hM:M≤M') (t2:dA (·=m) w1 w2)
 (own2:w2.ownsMap Tryz.prog 9 wC m n (DataW.put (kC (L.map fun p=>(p.1.name,kD p.2))) (kL t'.name) (kD p.2))):
 tC w2 B l m c now ((tA (fun p:cA×Nat=>p.1.name) (t',p.2) L).map (·.1)) M':=by
 have hl:=aA h.blk;have hm:=h.ten.lt;have h1:=t1.size;have hput:DataW.put (kC (L.map fun p=>(p.1.name,kD p.2))) (kL t'.name) (kD p.2)=kC ((tA (fun p:cA×Nat=>p.1.name) (t',p.2) L).map fun p=>(p.1.name,kD p.2)):=
  fZ (key:=fun p:cA×Nat=>p.1.name) (fun p=>kD p.2) (t',p.2) h.rise
 have hnd:∀q∈L,q.1.name≠t'.name→q.2≠p.2:=fun q hq hne e=>by
  have:=lN h.nd hq hp e;rw [this,hn] at hne;exact hne rfl
 have hkeep:∀g,g<w.heap.size→¬(B≤g∧T g=some p.2)→g≠m→w2.heap[g]?=w.heap[g]?:=fun g hg h3 h4=>by
  rw [t2.block g (by omega) h4,t1.block g hg h3]
 refine ⟨fun g=>if g<w.heap.size then T g else some p.2,_,?_,rfl⟩;exact {
  blk:=(hkeep l hl (fun e=>by rw [h.tl] at e;cases e.2) h.lm.symm).trans h.blk
  ten:=by
   have:=II own2;rw [hput,oI] at this;exact this
  rise:=dH h.rise
  idx:=fun q hq=>by
   rcases PG h.rise hq with rfl | ⟨hq,hne⟩
   ·refine hi.keep fun g hg hs=>⟨t2.block g hg (fun e=>?_),?_,?_⟩
    ·subst e;rcases hs with hs | hs
     ·rw [h.tm] at hs;cases hs.2
     ·omega
    ·omega
    ·show (if g<w.heap.size then T g else some p.2)=some p.2;by_cases hg':g<w.heap.size
     ·rw [if_pos hg'];rcases hs with hs | hs
      ·exact hs.2
      ·omega
     ·rw [if_neg hg']
   ·refine ((h.idx q hq).mono hM).keep fun g hg hs=>⟨hkeep g hg (fun e=>?_) (fun e=>by rw [e,h.tm] at hs;cases hs.2),hs.1,?_⟩
    ·have:=hnd q hq hne;rw [e.2] at hs;exact this (Option.some.inj hs.2).symm
    ·show (if g<w.heap.size then T g else some p.2)=_;rw [if_pos hg];exact hs.2
  nd:=by
   rw [eX (key:=fun p:cA×Nat=>p.1.name) (a:=(t',p.2)) (·.2) h.rise hp hn.symm rfl];exact h.nd
  tl:=by show (if l<w.heap.size then T l else _)=none;rw [if_pos hl];exact h.tl
  tm:=by show (if m<w.heap.size then T m else _)=none;rw [if_pos hm];exact h.tm
  lB:=h.lB
  mB:=h.mB}
theorem aCh {w w1 w2:World}{B:Nat}{T:Nat→Option Nat}{l m n:Nat}{c:eC}{now:Int}{L:List (cA×Nat)}{M:Nat}{k:ByteArray}{S:Nat→Prop} (h:vI w B T l m c now L M) (hS:∀g,S g→∀q∈L,q.1.name≠k→T g≠some q.2) (hS2:∀g,g<w.heap.size→S g→T g≠none)
 (t1:dA S w w1) (t2:dA (·=m) w1 w2) (own2:w2.ownsMap Tryz.prog 9 wC m n (DataW.del (kC (L.map fun p=>(p.1.name,kD p.2))) (kL k))):
 tC w2 B l m c now ((aD (fun p:cA×Nat=>p.1.name) k L).map (·.1)) M:=by
 have hl:=aA h.blk;have h1:=t1.size;have hdel:DataW.del (kC (L.map fun p=>(p.1.name,kD p.2))) (kL k)=kC ((aD (fun p:cA×Nat=>p.1.name) k L).map fun p=>(p.1.name,kD p.2)):=
  OA (key:=fun p:cA×Nat=>p.1.name) (fun p=>kD p.2) k L
 have hkeep:∀g,g<w.heap.size→¬S g→g≠m→w2.heap[g]?=w.heap[g]?:=fun g hg h3 h4=>by
  rw [t2.block g (by omega) h4,t1.block g hg h3]
 refine ⟨T,_,?_,rfl⟩;exact {
  blk:=(hkeep l hl (fun e=>hS2 l hl e h.tl) h.lm.symm).trans h.blk
  ten:=by
   have:=II own2;rw [hdel,oI] at this;exact this
  rise:=tK h.rise
  idx:=fun q hq=>by
   obtain ⟨hq,hne⟩:=jN.1 hq;exact (h.idx q hq).keep fun g hg hs=>⟨hkeep g hg (fun e=>hS g e q hq hne hs.2) (fun e=>by rw [e,h.tm] at hs;cases hs.2),hs⟩
  nd:=h.nd.sublist (List.Sublist.map _ List.filter_sublist)
  tl:=h.tl
  tm:=h.tm
  lB:=h.lB
  mB:=h.mB}
theorem FJ {L:List (cA×Nat)}{k:ByteArray}:cB (·.name) k (L.map (·.1))=(cB (fun p:cA×Nat=>p.1.name) k L).map (·.1):=aNk rfl k
theorem JA (l m:Nat) (tenant metric:ByteArray) (limit:Int) (c:eC) (now:Int) (B:Nat) (ts:List cA) (M:Nat) (w:World) (h:tC w B l m c now ts M) (hB:B≤w.heap.size) (hU:wF w) (hn:tenant.size≤1048576) (hm:metric.size≤1048576) (hml:∀t∈ts,t.mets.length≤1000000000) (hlen:ts.length≤1000000000):
 Calls Tryz.prog 154 #[.pointer (some ⟨l,0,none⟩),.string tenant,.string metric,.int .i64 limit] w fun e w'=>e=.returned (.bool (jO ts tenant metric limit).2)∧tC w' B l m c now (jO ts tenant metric limit).1 M∧dA (fun g=>B≤g) w w':=by
 have HLA:=iA h;obtain ⟨T,L,h,hL⟩:=h;have HT:Hid _:=fun W=>xK tenant W (by unfold maxLen;omega);have HM:Hid _:=fun W hW=>dV metric W (by omega) (hU.later hW);have HLM:Hid _:=fun W=>tO limit W;have HS:Hid (jO ts tenant metric limit=if (dC tenant&&(metric.toList.isEmpty||oD metric) &&mA limit (-1) 1000000)=false then (ts,false) else if dD (cF (xA ts tenant) metric limit)=true then (aD (·.name) tenant ts,true) else if ((cB (·.name) tenant ts).isNone&&decide (10000≤ts.length))=true then (ts,false) else (tA (·.name) (cF (xA ts tenant) metric limit) ts,true)):=rfl;have HBT:Hid (mA limit (-1) 1000000=true→-1≤limit∧limit≤1000000):=fun h=>yH h;clear hU;generalize hb1:dC tenant=b1 at *;generalize hb2:(metric.toList.isEmpty||oD metric)=b2 at *;generalize hb3:mA limit (-1) 1000000=b3 at *;clear hb1 hb2 hb3;generalize hR:jO ts tenant metric limit=R at *;clear hR;by_cases h1:b1=false
 ·have HV:Hid (R=(ts,false)):=by show _=_;rw [HS.out,if_pos (by rw [h1];rfl)]
  clear HS h;subst h1;go_enter Tryz.func154,Tryz.ntmps154;go_wp2_with fail;refine (HT.out _).mono ?_;rintro e w1 ⟨rfl,hw⟩;replace hw:=hw.symm;subst hw;go_wp2;go_ret;exact ⟨jA (by rw [HV.out]),by rw [HV.out];exact HLA.out,dA.refl _ _⟩
 have h1':b1=true:=by simpa using h1
 subst h1';clear h1;by_cases h2:b2=false
 ·have HV:Hid (R=(ts,false)):=by show _=_;rw [HS.out,if_pos (by rw [h2];rfl)]
  clear HS h;subst h2;go_enter Tryz.func154,Tryz.ntmps154;go_wp2_with fail;refine (HT.out _).mono ?_;rintro e w1 ⟨rfl,hw⟩;replace hw:=hw.symm;subst hw;go_wp2_with fail;refine (HM.out _ (Below.refl _ _)).mono ?_;rintro e w2 ⟨rfl,hb2⟩;have HB2:=iA hb2;clear hb2;go_wp2;go_ret;exact ⟨jA (by rw [HV.out]),by rw [HV.out];exact HLA.out.later HB2.out,dA.of HB2.out⟩
 have h2':b2=true:=by simpa using h2
 subst h2';clear h2;by_cases h3:b3=false
 ·have HV:Hid (R=(ts,false)):=by show _=_;rw [HS.out,if_pos (by rw [h3];rfl)]
  clear HS h;subst h3;go_enter Tryz.func154,Tryz.ntmps154;go_wp2_with fail;refine (HT.out _).mono ?_;rintro e w1 ⟨rfl,hw⟩;replace hw:=hw.symm;subst hw;go_wp2_with fail;refine (HM.out _ (Below.refl _ _)).mono ?_;rintro e w2 ⟨rfl,hb2⟩;have HB2:=iA hb2;clear hb2;go_wp2_with fail;refine (HLM.out _).mono ?_;rintro e w3 ⟨rfl,hw⟩;replace hw:=hw.symm;subst hw;go_wp2;go_ret;exact ⟨jA (by rw [HV.out]),by rw [HV.out];exact HLA.out.later HB2.out,dA.of HB2.out⟩
 have h3':b3=true:=by simpa using h3
 subst h3';clear h3;obtain ⟨hl0,hl1⟩:=HBT.out rfl;have HS2:Hid (R=if dD (cF (xA ts tenant) metric limit)=true then (aD (·.name) tenant ts,true) else if ((cB (·.name) tenant ts).isNone&&decide (10000≤ts.length))=true then (ts,false) else (tA (·.name) (cF (xA ts tenant) metric limit) ts,true)):=by show _=_;rw [HS.out,if_neg (by simp)]
 have HK:Hid (keyOf Tryz.prog 9 (.string tenant)=some (kL tenant)):=uI (by unfold maxLen;omega);have hsub:=hL;subst hsub;have hln:(L.map (·.1)).length=L.length:=List.length_map _;have HGB:Hid (cB (·.name) tenant (L.map (·.1))=(cB (fun p:cA×Nat=>p.1.name) tenant L).map (·.1)):=FJ;have HTO:Hid (xA (L.map (·.1)) tenant=(((cB (fun p:cA×Nat=>p.1.name) tenant L).map (·.1)).getD ⟨tenant,-1,[],[]⟩)):=by
  show _=_;unfold xA;rw [HGB.out]
 have HF:Hid _:=fun W hW=>TH l m tenant c now B T L M W hW (by unfold maxLen;omega);unfold MW at HF;have HH:=iA h;have hmlen:=h.ten.lt;have hllen:=aA h.blk;have HMB:Hid (B≤m∧B≤l):=⟨h.mB,h.lB⟩
 clear h HS HBT hL;go_enter Tryz.func154,Tryz.ntmps154;go_wp2_with fail;refine (HT.out _).mono ?_;rintro e w1 ⟨rfl,hw⟩;replace hw:=hw.symm;subst hw;go_wp2_with fail;refine (HM.out _ (Below.refl _ _)).mono ?_;rintro e w2 ⟨rfl,hb2⟩;have HB2:=iA hb2;have H2:Hid _:=HH.out.keep fun g hg _=>hb2.block g hg;have hs2:=hb2.size;clear hb2 HM HT;go_wp2_with fail;refine (HLM.out _).mono ?_;rintro e w3 ⟨rfl,hw⟩;replace hw:=hw.symm;subst hw;clear HLM;go_wp2_with fail;refine (HF.out _ H2.out).mono ?_;intro e w3 hfo;have HFO:=iA hfo;clear hfo;rcases HFO.out with ⟨p,hg,rfl,hw⟩ | ⟨hg,x,rfl,hx,hi,hb3⟩
 ·replace hw:=hw.symm;subst hw;obtain ⟨hp,hpn⟩:=gN hg;have HTE:Hid (xA (L.map (·.1)) tenant=p.1):=by show _=_;rw [HTO.out,hg];rfl
  have HGS:Hid (cB (·.name) tenant (L.map (·.1))=some p.1):=by show _=_;rw [HGB.out,hg];rfl
  rw [HTE.out,HGS.out] at HS2;have hpl:=hml p.1 (List.mem_map_of_mem hp);have HX:Hid (Calls Tryz.prog 197 #[.pointer (some ⟨p.2,0,none⟩),.string metric,.int .i64 limit] w2 fun e w'=>e=.returned (.tuple #[])∧zB w' (fun g=>B≤g∧T g=some p.2) p.2 (cF p.1 metric limit) M∧dA (fun g=>B≤g∧T g=some p.2) w2 w'):=XU p.2 metric limit p.1 _ M w2 (H2.out.idx p hp) (by unfold maxLen;omega) hl0 hl1 hpl;have HN:Hid ((cF p.1 metric limit).name=tenant):=by show _=_;rw [iN];exact hpn
  have HP:Hid (p∈L∧p.1.name=tenant):=⟨hp,hpn⟩
  clear HFO hg hp hpn hpl HTO HGB HTE HGS HF;generalize cF p.1 metric limit=t' at *;go_wp2_with fail;refine HX.out.mono ?_;rintro e w4 ⟨rfl,hi4,ht4⟩;have HI4:=iA hi4;have HT4:=iA ht4;have hs4:=ht4.size;have HID:Hid (Calls Tryz.prog 150 #[.pointer (some ⟨p.2,0,none⟩)] w4 fun e w'=>e=.returned (.bool (dD t'))∧w'=w4):=xW p.2 t' _ M w4 hi4;have HTEN:Hid (w4.ownsMap Tryz.prog 9 wC m L.length (kC (L.map fun p=>(p.1.name,kD p.2)))):=ht4.map H2.out.ten (fun e=>by rw [H2.out.tm] at e;cases e.2);have x7:w4.cell? ⟨l,7,none⟩=some (.map (some m)):=(ht4.blk H2.out.blk (fun e=>by rw [H2.out.tl] at e;cases e.2)).cell 7;have HTW:Hid (dA (fun g=>B≤g) w w4):=(dA.of HB2.out).trans' (ht4.mono fun i _ e=>e.1);clear hi4 ht4 HX;go_wp2_with fail;refine HID.out.mono ?_;rintro e w5 ⟨rfl,hw⟩;replace hw:=hw.symm;subst hw;clear HID;cases hidl:dD t' with
  | true=>
    have HV:Hid (R=(aD (·.name) tenant (L.map (·.1)),true)):=by show _=_;rw [HS2.out,if_pos hidl]
    clear hidl HS2;go_wp2_with (at_delete;refine wpList_delete_own _ rfl _ _ 166 9 rfl 178 zG Tryz.underlying166 wC m _ _ rfl HTEN.out _ _ rfl HK.out ?_;intro w6 hown6 hturn6);have ht6:=dA.mapped hturn6;have HL6:Hid (tC w6 B l m c now (aD (·.name) tenant (L.map (·.1))) M):=by
     refine iA ?_;have:=aCh (k:=tenant) (S:=fun g=>B≤g∧T g=some p.2) H2.out (fun g hs q hq hne e=>by
      rw [hs.2] at e;have:=lN H2.out.nd hq HP.out.1 (Option.some.inj e).symm;rw [this] at hne;exact hne HP.out.2) (fun g _ hs e=>by rw [e] at hs;cases hs.2) HT4.out ht6 hown6
     rw [uP (key':=fun t:cA=>t.name) (fun p:cA×Nat=>p.1) (fun _=>rfl)] at this;exact this
    have HT6:Hid _:=HTW.out.trans' (ht6.mono fun i _ e=>by have:=HMB.out;omega);clear hown6 hturn6 ht6;go_ret;exact ⟨jA (by rw [HV.out]),by rw [HV.out];exact HL6.out,HT6.out⟩
  | false=>
    have HV:Hid (R=(tA (·.name) t' (L.map (·.1)),true)):=by show _=_;rw [HS2.out,if_neg (by rw [hidl];simp),if_neg (by simp)]
    clear hidl HS2;obtain ⟨w6,run6,own6,tn6⟩:=HTEN.out.store zG Tryz.underlying166 (by unfold maxLen;omega) HK.out (dL p.2);have ht6:=dA.mapped tn6;have HL6:Hid (tC w6 B l m c now (tA (·.name) t' (L.map (·.1))) M):=by
     refine iA ?_;rw [←HN.out] at own6;have:=PA (p:=p) (t':=t') (M':=M) H2.out (by omega) HP.out.1 (by rw [HN.out,HP.out.2]) HT4.out (HI4.out.keep fun g _ hs=>⟨rfl,Or.inl hs⟩) (Nat.le_refl _) ht6 own6;rw [oH (key':=fun t:cA=>t.name) (fun p:cA×Nat=>p.1) (fun _=>rfl)] at this;exact this
    have HT6:Hid _:=HTW.out.trans' (ht6.mono fun i _ e=>by have:=HMB.out;omega);clear own6 tn6 ht6;go_wp2;go_ret;exact ⟨jA (by rw [HV.out]),by rw [HV.out];exact HL6.out,HT6.out⟩
 ·have HTE:Hid (xA (L.map (·.1)) tenant=⟨tenant,-1,[],[]⟩):=by show _=_;rw [HTO.out,hg];rfl
  have HGS:Hid (cB (·.name) tenant (L.map (·.1))=none):=by show _=_;rw [HGB.out,hg];rfl
  rw [HTE.out,HGS.out] at HS2;have HX:Hid (Calls Tryz.prog 197 #[.pointer (some ⟨x,0,none⟩),.string metric,.int .i64 limit] w3 fun e w'=>e=.returned (.tuple #[])∧zB w' (fun g=>w2.heap.size≤g) x (cF ⟨tenant,-1,[],[]⟩ metric limit) 0∧dA (fun g=>w2.heap.size≤g) w3 w'):=XU x metric limit _ _ 0 w3 hi (by unfold maxLen;omega) hl0 hl1 (by simp);have HN:Hid ((cF ⟨tenant,-1,[],[]⟩ metric limit).name=tenant):=by show _=_;rw [iN]
  have HG:=iA hg;have B3:=iA hb3;have hs3:=hb3.size;clear HFO hg hi hb3 HTO HGB HTE HGS HF;generalize cF ⟨tenant,-1,[],[]⟩ metric limit=t' at *;go_wp2_with fail;refine HX.out.mono ?_;rintro e w4 ⟨rfl,hi4,ht4⟩;have HI4:=iA hi4;have hs4:=ht4.size;have BB:Hid _:=B3.out.trans (ht4.below (by omega) fun i hi e=>by omega);have H4:Hid _:=H2.out.keep fun g hg _=>BB.out.block g hg;have HID:Hid (Calls Tryz.prog 150 #[.pointer (some ⟨x,0,none⟩)] w4 fun e w'=>e=.returned (.bool (dD t'))∧w'=w4):=xW x t' _ 0 w4 hi4;have HFU:Hid (Calls Tryz.prog 193 #[.pointer (some ⟨l,0,none⟩)] w4 fun e w'=>e=.returned (.bool (decide (10000≤L.length)))∧w'=w4):=TM l m c now B T L M w4 H4.out;have HTEN:=iA H4.out.ten;have x7:w4.cell? ⟨l,7,none⟩=some (.map (some m)):=H4.out.blk.cell 7;have HTW:Hid (dA (fun g=>B≤g) w w4):=(dA.of HB2.out).trans' (dA.of BB.out);clear hi4 ht4 HX;go_wp2_with fail;refine HID.out.mono ?_;rintro e w5 ⟨rfl,hw⟩;replace hw:=hw.symm;subst hw;clear HID;cases hidl:dD t' with
  | true=>
    have HV:Hid (R=(aD (·.name) tenant (L.map (·.1)),true)):=by show _=_;rw [HS2.out,if_pos hidl]
    clear hidl HS2;go_wp2_with (at_delete;refine wpList_delete_own _ rfl _ _ 166 9 rfl 178 zG Tryz.underlying166 wC m _ _ rfl HTEN.out _ _ rfl HK.out ?_;intro w6 hown6 hturn6);have ht6:=dA.mapped hturn6;have HL6:Hid (tC w6 B l m c now (aD (·.name) tenant (L.map (·.1))) M):=by
     refine iA ?_;have:=aCh (k:=tenant) (S:=fun _=>False) H4.out (fun g hs=>hs.elim) (fun g _ hs=>hs.elim) (dA.refl _ w4) ht6 hown6;rw [uP (key':=fun t:cA=>t.name) (fun p:cA×Nat=>p.1) (fun _=>rfl)] at this;exact this
    have HT6:Hid _:=HTW.out.trans' (ht6.mono fun i _ e=>by have:=HMB.out;omega);clear hown6 hturn6 ht6;go_ret;exact ⟨jA (by rw [HV.out]),by rw [HV.out];exact HL6.out,HT6.out⟩
  | false=>
    by_cases hfl:10000≤L.length
    ·have HV:Hid (R=(L.map (·.1),false)):=by show _=_;rw [HS2.out,if_neg (by rw [hidl];simp),if_pos (by rw [hln];simpa using hfl)]
     have hfd:decide (10000≤L.length)=true:=by simpa using hfl
     rw [hfd] at HFU;clear hidl HS2 hfd hfl;go_wp2_with fail;refine HFU.out.mono ?_;rintro e w5 ⟨rfl,hw⟩;replace hw:=hw.symm;subst hw;go_wp2;go_ret;exact ⟨jA (by rw [HV.out]),by rw [HV.out];exact ⟨T,L,H4.out,rfl⟩,HTW.out⟩
    ·have HV:Hid (R=(tA (·.name) t' (L.map (·.1)),true)):=by show _=_;rw [HS2.out,if_neg (by rw [hidl];simp),if_neg (by rw [hln];simpa using hfl)]
     have hfd:decide (10000≤L.length)=false:=by simpa using hfl
     rw [hfd] at HFU;clear hidl HS2 hfd;go_wp2_with fail;refine HFU.out.mono ?_;rintro e w5 ⟨rfl,hw⟩;replace hw:=hw.symm;subst hw;obtain ⟨w6,run6,own6,tn6⟩:=HTEN.out.store zG Tryz.underlying166 (by unfold maxLen;omega) HK.out (dL x);have ht6:=dA.mapped tn6;have HL6:Hid (tC w6 B l m c now (tA (·.name) t' (L.map (·.1))) M):=by
      refine iA ?_;rw [←HN.out] at own6;have:=zq (x:=x) (t:=t') (M':=0) H2.out (by omega) (by show cB (fun p:cA×Nat=>p.1.name) t'.name L=none;rw [HN.out];exact HG.out) (Below.refl _ _) BB.out hx ht6 own6 (dA.refl _ w6) (HI4.out.keep fun g hg hs=>⟨ht6.block g hg (fun e=>by have:=H2.out.ten.lt;omega),hs⟩) (Nat.zero_le _);rw [oH (key':=fun t:cA=>t.name) (fun p:cA×Nat=>p.1) (fun _=>rfl)] at this;exact this
     have HT6:Hid _:=HTW.out.trans' (ht6.mono fun i _ e=>by have:=HMB.out;omega);clear own6 tn6 ht6;go_wp2;go_ret;exact ⟨jA (by rw [HV.out]),by rw [HV.out];exact HL6.out,HT6.out⟩
end Go.Proofs.YtcneojllbkacoaaGreatDoor
namespace Go.Proofs.YtcneojllbkacoaaGreatDoor
def lG (t:cA) (s:List cA×Bool) (p:cA):List cA×Bool:=
 (s.1++(if s.2=true then [] else if nG p.name t.name=true then [] else [t])++(if (p.name.toList==t.name.toList)=true then [] else [p]),if s.2=true then true else !nG p.name t.name)
def lQ (t:cA) (b:Bool) (ps:List cA):List cA×Bool:=ps.foldl (lG t) ([],b)
def gY (t:cA) (b:Bool) (ps:List cA):List cA:=(lQ t b ps).1++if (lQ t b ps).2=true then [] else [t]
theorem aBo (t:cA) (b:Bool) (ps:List cA) (k:Nat) (h:k<ps.length):lQ t b (ps.take (k+1))=lG t (lQ t b (ps.take k)) ps[k]:=by
 rw [List.take_succ_eq_append_getElem h,lQ,List.foldl_append];rfl
theorem aHn (t:cA) (ps:List cA):∀(acc:List cA) (b:Bool),ps.foldl (lG t) (acc,b)=(acc++(ps.foldl (lG t) ([],b)).1,(ps.foldl (lG t) ([],b)).2):=by
 induction ps with
 | nil=>intro acc b;simp
 | cons p r ih=>
   intro acc b;simp only [List.foldl_cons];rw [ih (lG t (acc,b) p).1 (lG t (acc,b) p).2,ih (lG t ([],b) p).1 (lG t ([],b) p).2];simp [lG]
theorem sZ (t p:cA) (r:List cA) (b:Bool):gY t b (p :: r)=(lG t ([],b) p).1++gY t (lG t ([],b) p).2 r:=by
 unfold gY lQ;rw [List.foldl_cons,aHn t r (lG t ([],b) p).1 (lG t ([],b) p).2];simp
theorem zO {t:cA}{ps:List cA} (h:∀p∈ps,p.name≠t.name):gY t true ps=ps:=by
 induction ps with
 | nil=>rfl
 | cons p r ih=>
   rw [sZ];have h1:(p.name.toList==t.name.toList)=false:=iC (h p (List.mem_cons_self ..));simp only [lG,h1,if_true,List.nil_append];simp [ih fun q hq=>h q (List.mem_cons_of_mem _ hq)]
theorem aLg {t:cA}{ps:List cA} (hr:oB (·.name) ps):gY t false ps=tA (·.name) t ps:=by
 induction ps with
 | nil=>rfl
 | cons p r ih=>
   have ihr:=ih hr.tail;rw [sZ,tA];by_cases h2:nG p.name t.name=true
   ·have h3:(p.name.toList==t.name.toList)=false:=iC (cG h2);simp only [lG,h2,h3,if_true];simp [ihr]
   ·have h2':nG p.name t.name=false:=by simpa using h2
    have hnone:∀q∈r,q.name≠t.name:=fun q hq e=>by
     have hb:=hr.head q hq;rw [e] at hb;exact h2 hb
    by_cases h3:p.name=t.name
    ·have h4:(p.name.toList==t.name.toList)=true:=(rC _ _).2 h3;simp only [lG,h2',h4,if_true];simp [zO hnone]
    ·have h4:(p.name.toList==t.name.toList)=false:=iC h3;simp only [lG,h2',h4];simp [zO hnone]
theorem aJc (win now:Int) (ts:List cA) (k:Nat) (h:k<ts.length):mC win now (ts.take (k+1))=mC win now (ts.take k)++if dD (eD win now ts[k])=true then [] else [eD win now ts[k]]:=by
 rw [List.take_succ_eq_append_getElem h,mC,List.map_append,List.filter_append];congr 1;by_cases e:dD (eD win now ts[k])=true
 ·rw [if_pos e];simp [e]
 ·rw [if_neg e];simp [e]
theorem aOm (win now:Int) (ts:List cA) (k:Nat):(mC win now (ts.take k)).length≤ts.length:=by
 unfold mC;have h1:=List.length_filter_le (fun t=>!dD t) ((ts.take k).map (eD win now));rw [List.length_map,List.length_take] at h1;omega
theorem aLh {t:cA}{b:Bool}{ps:List cA}{q:cA} (h:q∈gY t b ps):q=t∨q∈ps:=by
 induction ps generalizing b with
 | nil=>
   unfold gY lQ at h;simp only [List.foldl_nil,List.nil_append] at h;cases b with
   | true=>cases h
   | false=>exact Or.inl (by simpa using h)
 | cons p r ih=>
   rw [sZ,List.mem_append] at h;rcases h with h | h
   ·unfold lG at h;simp only [List.nil_append,List.mem_append] at h;rcases h with h | h
    ·by_cases hb:b=true
     ·rw [if_pos hb] at h;cases h
     ·rw [if_neg hb] at h;by_cases h2:nG p.name t.name=true
      ·rw [if_pos h2] at h;cases h
      ·rw [if_neg h2] at h;exact Or.inl (by simpa using h)
    ·by_cases h2:(p.name.toList==t.name.toList)=true
     ·rw [if_pos h2] at h;cases h
     ·rw [if_neg h2] at h;exact Or.inr (by simp at h;simp [h])
   ·rcases ih h with h | h
    ·exact Or.inl h
    ·exact Or.inr (List.mem_cons_of_mem _ h)
end Go.Proofs.YtcneojllbkacoaaGreatDoor
namespace Go.Proofs.YtcneojllbkacoaaGreatDoor
open Go.RowKit
theorem YV (ki:Int) (nm da:ByteArray) (nu:Int) (w:World):
 Calls Tryz.prog 41 #[.agg #[.int .i64 ki,.string nm,.string da,.int .i64 nu],.agg #[.int .i64 ki,.string nm,.string da,.int .i64 nu]] w fun e w'=>e=.returned (.bool true)∧Below w.heap.size w w':=by
 go_enter Tryz.func41,Tryz.ntmps41;go_wp2;go_ret;exact ⟨rfl,((Below.refl _ _).alloc (Nat.le_refl _) _).alloc (by simp) _⟩
theorem TC (a a':Option Addr) (cap cap':Nat) (fs:List pC) (w:World) (hf:oE w a fs) (hf':oE w a' fs) (hlen:fs.length≤maxLen):
 Calls Tryz.prog 12 #[.slice a fs.length cap,.slice a' fs.length cap'] w fun e w'=>e=.returned (.bool true)∧Below w.heap.size w w':=by
 unfold maxLen at hlen;have HF:Hid (oE w a fs):=hf;have HF':Hid (oE w a' fs):=hf';clear hf hf';go_enter Tryz.func12,Tryz.ntmps12;go_wp2;go_loopw [5] (fun i wr=>∃k:Nat,k≤fs.length∧i=.int .i64 k∧Below w.heap.size w wr) (fun i _=>fs.length - (intOf i).toNat)
 case atStart=>exact ⟨0,Nat.zero_le _,rfl,Below.refl _ _⟩
 case round=>
  obtain ⟨k,hk,rfl,hbel⟩:=hrel;by_cases hlt:k<fs.length
  ·obtain ⟨b,o,rfl,hb,c0,c1,c2,c3⟩:=(HF.out.later hbel).at hlt;obtain ⟨b',o',rfl,hb',c0',c1',c2',c3'⟩:=(HF'.out.later hbel).at hlt;have d0:=pA.cells c0;have d1:=pA.cells c1;have d2:=pA.cells c2;have d3:=pA.cells c3;have d0':=pA.cells c0';have d1':=pA.cells c1';have d2':=pA.cells c2';have d3':=pA.cells c3';clear c0 c1 c2 c3 c0' c1' c2' c3';have hne:=pA.there wr;go_wp2_with fail;refine fA (by kernel_rfl) (by kernel_rfl) ?_;repeat (go_big_quiet_step (refine oA (YV _ _ _ _ _)))
   refine wpQuiet_nil ?_;rintro _ ⟨x,rfl⟩;go_wp2;exact ⟨⟨k+1,by omega,by go_num,hbel.trans (x.h.mono hbel.size)⟩,by simp [intOf];omega⟩
  ·go_wp2;go_ret;exact ⟨rfl,hbel⟩
end Go.Proofs.YtcneojllbkacoaaGreatDoor
