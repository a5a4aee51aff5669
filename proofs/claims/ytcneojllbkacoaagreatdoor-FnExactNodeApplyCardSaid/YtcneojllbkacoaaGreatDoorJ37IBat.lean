import Derived.Test.YtcneojllbkacoaaGreatDoorJ34Open
import Derived.Test.YtcneojllbkacoaaGreatDoorJ32RecE
set_option maxRecDepth 100000
set_option maxHeartbeats 4000000
namespace Go.Proofs.YtcneojllbkacoaaGreatDoor
open Go.RowKit
theorem zQ (ki nu:Int) (te tx:ByteArray) (w:World):
 Calls Tryz.prog 318 #[.agg #[.int .i64 ki,.string te],.string tx,.int .i64 nu] w fun e w'=>e=.returned (.agg #[.int .i64 ki,.string te,.string tx,.int .i64 nu])∧Below w.heap.size w w':=by
 go_enter Tryz.func318,Tryz.ntmps318;go_wp2;exact bodyPost_ret (v:=.agg #[.int .i64 ki,.string te,.string tx,.int .i64 nu]) (by simp [results,Tryz.results318,go_sem]) rfl ⟨rfl,rA (bA _ _) (bA _ _)⟩
theorem aEq (ki:Int) (te tx:ByteArray) (w:World):
 Calls Tryz.prog 319 #[.agg #[.int .i64 ki,.string te,.string tx]] w fun e w'=>e=.returned (.agg #[.int .i64 ki,.string te,.string tx,.int .i64 0])∧Below w.heap.size w w':=by
 go_enter Tryz.func319,Tryz.ntmps319;go_wp2_with fail;refine (zQ _ _ _ _ _).mono ?_;rintro e w1 ⟨rfl,hb1⟩;have B1:Hid _:=rA (rA (bA _ _) (bA _ _)) hb1;have R1:Hid (lA w1 (w.heap.size+1) #[.int .i64 0,.string ByteArray.empty,.string ByteArray.empty,.int .i64 0] 77):=by have:=(lA.new (w.alloc (.cells #[.int .i64 ki,.string te,.string tx] 215)) #[.int .i64 0,.string ByteArray.empty,.string ByteArray.empty,.int .i64 0] 77).later hb1;exact iA (by simpa using this)
 have s0:w1.cell? ⟨w.heap.size+1,0,none⟩=some (.int .i64 0):=R1.out.cell 0;have s1:w1.cell? ⟨w.heap.size+1,1,none⟩=some (.string ByteArray.empty):=R1.out.cell 1;have s2:w1.cell? ⟨w.heap.size+1,2,none⟩=some (.string ByteArray.empty):=R1.out.cell 2;have s3:w1.cell? ⟨w.heap.size+1,3,none⟩=some (.int .i64 0):=R1.out.cell 3;have u0:=R1.out.free 0;have u1:=R1.out.free 1;have u2:=R1.out.free 2;have u3:=R1.out.free 3;clear hb1;go_wp2;refine bodyPost_ret (v:=.agg #[.int .i64 ki,.string te,.string tx,.int .i64 0]) (by simp [results,Tryz.results319,go_sem,s0,s1,s2,s3]) rfl ⟨rfl,?_⟩;exact (((B1.out.setCell (by simp) _).setCell (by simp) _).setCell (by simp) _).setCell (by simp) _
theorem aEr (ki nu:Int) (te:ByteArray) (w:World):
 Calls Tryz.prog 320 #[.agg #[.int .i64 ki,.string te,.int .i64 nu]] w fun e w'=>e=.returned (.agg #[.int .i64 ki,.string te,.string ByteArray.empty,.int .i64 nu])∧Below w.heap.size w w':=by
 go_enter Tryz.func320,Tryz.ntmps320;go_wp2_with fail;refine (zQ _ _ _ _ _).mono ?_;rintro e w1 ⟨rfl,hb1⟩;have B1:Hid _:=rA (rA (bA _ _) (bA _ _)) hb1;have R1:Hid (lA w1 (w.heap.size+1) #[.int .i64 0,.string ByteArray.empty,.string ByteArray.empty,.int .i64 0] 77):=by have:=(lA.new (w.alloc (.cells #[.int .i64 ki,.string te,.int .i64 nu] 217)) #[.int .i64 0,.string ByteArray.empty,.string ByteArray.empty,.int .i64 0] 77).later hb1;exact iA (by simpa using this)
 have s0:w1.cell? ⟨w.heap.size+1,0,none⟩=some (.int .i64 0):=R1.out.cell 0;have s1:w1.cell? ⟨w.heap.size+1,1,none⟩=some (.string ByteArray.empty):=R1.out.cell 1;have s2:w1.cell? ⟨w.heap.size+1,2,none⟩=some (.string ByteArray.empty):=R1.out.cell 2;have s3:w1.cell? ⟨w.heap.size+1,3,none⟩=some (.int .i64 0):=R1.out.cell 3;have u0:=R1.out.free 0;have u1:=R1.out.free 1;have u2:=R1.out.free 2;have u3:=R1.out.free 3;clear hb1;go_wp2;refine bodyPost_ret (v:=.agg #[.int .i64 ki,.string te,.string ByteArray.empty,.int .i64 nu]) (by simp [results,Tryz.results320,go_sem,s0,s1,s2,s3];rfl) rfl ⟨rfl,?_⟩;exact (((B1.out.setCell (by simp) _).setCell (by simp) _).setCell (by simp) _).setCell (by simp) _
theorem aEp (ki nu:Int) (te tx:ByteArray) (w:World):
 Calls Tryz.prog 321 #[.agg #[.int .i64 ki,.string te,.string tx,.int .i64 nu]] w fun e w'=>e=.returned (.agg #[.int .i64 ki,.string te,.string tx,.int .i64 nu])∧Below w.heap.size w w':=by
 go_enter Tryz.func321,Tryz.ntmps321;go_wp2_with fail;refine (zQ _ _ _ _ _).mono ?_;rintro e w1 ⟨rfl,hb1⟩;have B1:Hid _:=rA (rA (bA _ _) (bA _ _)) hb1;have R1:Hid (lA w1 (w.heap.size+1) #[.int .i64 0,.string ByteArray.empty,.string ByteArray.empty,.int .i64 0] 77):=by have:=(lA.new (w.alloc (.cells #[.int .i64 ki,.string te,.string tx,.int .i64 nu] 219)) #[.int .i64 0,.string ByteArray.empty,.string ByteArray.empty,.int .i64 0] 77).later hb1;exact iA (by simpa using this)
 have s0:w1.cell? ⟨w.heap.size+1,0,none⟩=some (.int .i64 0):=R1.out.cell 0;have s1:w1.cell? ⟨w.heap.size+1,1,none⟩=some (.string ByteArray.empty):=R1.out.cell 1;have s2:w1.cell? ⟨w.heap.size+1,2,none⟩=some (.string ByteArray.empty):=R1.out.cell 2;have s3:w1.cell? ⟨w.heap.size+1,3,none⟩=some (.int .i64 0):=R1.out.cell 3;have u0:=R1.out.free 0;have u1:=R1.out.free 1;have u2:=R1.out.free 2;have u3:=R1.out.free 3;clear hb1;go_wp2;refine bodyPost_ret (v:=.agg #[.int .i64 ki,.string te,.string tx,.int .i64 nu]) (by simp [results,Tryz.results321,go_sem,s0,s1,s2,s3]) rfl ⟨rfl,?_⟩;exact (((B1.out.setCell (by simp) _).setCell (by simp) _).setCell (by simp) _).setCell (by simp) _
theorem UO (x : Value) (w : World) : (invoke (.fn (.method "loop.example/s02176/impl.flat") #[]) #[.iface 215 x]).run Tryz.prog w = .ok (.enter 319 #[x]) w := by kernel_rfl
theorem UP (x : Value) (w : World) : (invoke (.fn (.method "loop.example/s02176/impl.flat") #[]) #[.iface 217 x]).run Tryz.prog w = .ok (.enter 320 #[x]) w := by kernel_rfl
theorem UQ (x : Value) (w : World) : (invoke (.fn (.method "loop.example/s02176/impl.flat") #[]) #[.iface 219 x]).run Tryz.prog w = .ok (.enter 321 #[x]) w := by kernel_rfl
theorem OH {P:Program} (ρ:Operand→Value) (o:Oper) (r:Operand) (name:String) (ho:o.op=.call { callee:=.invoke r name,args:=#[],argTypes:=#[] }){u:Value} (hr:ρ r=u){n:Next}{w:World}
 (h:(invoke (.fn (.method name) #[]) #[u]).run P w=.ok n w):(execOp ρ o).run P w=.ok n w:=by
 unfold execOp;simp only [ho,resolve];simp [hr,h]
theorem RE {P:Program}{ops:Array Oper}{C:World→Prop}{Q:Act→Prop}{a:Act}{o:Oper}{rest:List Oper}{f:FuncId}{args:Array Value}{v:Value} (hw:Region.wanted o (yielded ops a.tmps)=true)
 (hx:∀w,(execOp a.eval o).run P w=.ok (.enter f args) w) (hc:∀w,C w→Calls P f args w (fun e w''=>e=.returned v∧C w'')) (h:wpQuiet P ops C Q rest (a.put o.dst v)):wpQuiet P ops C Q (o :: rest) a:=
 BigFrame.wpQuiet_want hw fun K hK=>⟨v,fun w hw=>by unfold Oper.quietAt;rw [hx];exact ⟨rfl,hc w hw⟩,hK _ h⟩
theorem XT {P:Program}{ops:Array Oper}{C:World→Prop}{Q:Act→Prop}{a:Act}{o:Oper}{rest:List Oper}{v:Value} (hw:Region.wanted o (yielded ops a.tmps)=true)
 (hx:∀w,(execOp a.eval o).run P w=.ok (.value v) w) (h:wpQuiet P ops C Q rest (a.put o.dst v)):wpQuiet P ops C Q (o :: rest) a:=
 BigFrame.wpQuiet_want hw fun K hK=>⟨v,fun w hw=>by unfold Oper.quietAt;rw [hx];exact ⟨rfl,rfl⟩,hK _ h⟩
theorem aOf (k k' n n':Int) (t t' x x':ByteArray) (W:World):(binOp .eql 77 (.agg #[.int .i64 k,.string t,.string x,.int .i64 n]) (.agg #[.int .i64 k',.string t',.string x',.int .i64 n'])).run Tryz.prog W=.ok (.bool (k==k'&&(t.toList==t'.toList&&(x.toList==x'.toList&&n==n')))) W:=by
 rw [run_eql_struct,run_equalIn_agg W _ _ _ _ (by kernel_rfl) (by kernel_rfl)];unfold Program.fieldsOf;rw [Tryz.underlying77];simp [Op.eqFields,go_sem,Tryz.underlying3,Tryz.underlying9];repeat' split
 all_goals simp_all
theorem TD (ρ:Operand→Value) (o:Oper) (p q:Operand) (ho:o.op=.binOp .eql 77 p q 77){k k' n n':Int}{t t' x x':ByteArray}
 (hp:ρ p=.agg #[.int .i64 k,.string t,.string x,.int .i64 n]) (hq:ρ q=.agg #[.int .i64 k',.string t',.string x',.int .i64 n']){b:Bool} (hb:(k==k'&&(t.toList==t'.toList&&(x.toList==x'.toList&&n==n')))=b) (W:World):
 (execOp ρ o).run Tryz.prog W=.ok (.value (.bool b)) W:=by
 unfold execOp;simp only [ho,hp,hq,Sem.run_bind,run_eqGuard_agg W _ _ _ _ _ _ (show Tryz.prog.eqGuardType Tryz.prog.depth 77=false by kernel_rfl),Result.andThen_ok,aOf,hb,Sem.run_pure]
theorem aIc {x:ByteArray}:x.toList=ByteArray.empty.toList ↔ x.size=0:=by
 rw [ByteArray.toList_eq,ByteArray.toList_eq];constructor
 ·intro h;show x.data.size=0;rw [←Array.length_toList,h];rfl
 ·intro h;have:x.data.toList.length=0:=by simpa using h
  rw [List.length_eq_zero_iff.1 this];rfl
theorem FH {k nu k' nu':Int}{te tx te' tx':ByteArray}{TY:TypeId}{rv:Value}{f:FuncId}{args:Array Value}{b:Bool} (w:World) (_h1:te.size≤1000000000) (_h2:tx.size≤1000000000)
 (HR:Hid (∀W,Calls Tryz.prog 112 #[.agg #[.int .i64 k,.string te,.string tx,.int .i64 nu]] W fun e w'=>e=.returned (.tuple #[.iface TY rv,.bool true])∧Below W.heap.size W w'))
 (HI : Hid (∀ W, (invoke (.fn (.method "loop.example/s02176/impl.flat") #[]) #[.iface TY rv]).run Tryz.prog W = .ok (.enter f args) W)) (HC : Hid (∀ W, Calls Tryz.prog f args W fun e w' => e = .returned (.agg #[.int .i64 k', .string te', .string tx', .int .i64 nu']) ∧ Below W.heap.size W w'))
 (HE:Hid ((k'==k&&(te'.toList==te.toList&&(tx'.toList==tx.toList&&nu'==nu)))=b)) (E:Hid (WE ⟨k,te,tx,nu⟩=(b&&(decide ((te.size:Int)≤255) &&decide ((tx.size:Int)≤65535))))):
 Calls Tryz.prog 73 #[.agg #[.int .i64 k,.string te,.string tx,.int .i64 nu]] w fun e w'=>e=.returned (.bool (WE ⟨k,te,tx,nu⟩))∧Below w.heap.size w w':=by
 have hcs:b=false∨b=true∧decide ((te.size:Int)≤255)=false∨b=true∧decide ((te.size:Int)≤255)=true:=by cases b<;>cases decide ((te.size:Int)≤255)<;>simp
 rcases hcs with rfl | ⟨rfl,hz⟩ | ⟨rfl,hz⟩
 all_goals
  try rw [hz] at E
  go_enter Tryz.func73,Tryz.ntmps73;go_wp2_with fail;refine (HR.out _).mono ?_;rintro e w1 ⟨rfl,hb1⟩;have B1:Hid _:=rA (bA _ _) hb1;have d:=fun x:pA w1=>(((lA.new w #[.int .i64 k,.string te,.string tx,.int .i64 nu] 77).later hb1).later x.h).c4;simp only [forall_and] at d;obtain ⟨d0,d1,d2,d3⟩:=d;have hne:=pA.there w1;clear hb1;go_wp2_with fail;refine fA (by kernel_rfl) (by kernel_rfl) ?_;repeat (go_big_quiet_step (fail))
  refine RE (by rfl) (fun W=>OH _ _ _ _ rfl rfl (HI.out W)) (by rintro _ ⟨x,rfl⟩;exact oA (HC.out _)) ?_;simp only [Act.put,List.setIfInBounds_toArray,List.set_cons_succ,List.set_cons_zero];repeat (go_big_quiet_step (fail))
  first
   | (refine XT (by rfl) (TD _ _ _ _ rfl rfl rfl HE.out) ?_;simp only [Act.put,List.setIfInBounds_toArray,List.set_cons_succ,List.set_cons_zero];repeat (go_big_quiet_step (fail)))
   | skip
  refine wpQuiet_nil ?_;rintro _ ⟨x,rfl⟩;have BX:=iA (rA B1.out x.h);go_wp2;go_ret;exact ⟨jA (by rw [E.out];simp),BX.out⟩
theorem aKl {r:pC}{b:Bool} (h:(r.kind=1∧r.num=0)∨(r.kind=2∧r.tenant.size=0∧r.text.size=0)∨r.kind=3 ↔ b=true):WE r=(b&&(decide ((r.tenant.size:Int)≤255) &&decide ((r.text.size:Int)≤65535))):=by
 by_cases hr:cK r
 ·rw [MD hr,h.1 hr.2.2,decide_eq_true (by have:=hr.1;omega),decide_eq_true (by have:=hr.2.1;omega)];rfl
 ·rw [jU hr];refine (Bool.eq_false_iff.2 fun e=>hr ?_).symm;simp only [Bool.and_eq_true,decide_eq_true_eq] at e;exact ⟨by omega,by omega,h.2 e.1⟩
theorem aFe (r:pC) (w:World) (h1:r.tenant.size≤1000000000) (h2:r.text.size≤1000000000):
 Calls Tryz.prog 73 #[aMx r] w fun e w'=>e=.returned (.bool (WE r))∧Below w.heap.size w w':=by
 obtain ⟨ki,te,tx,nu⟩:=r;by_cases k1:ki=1
 ·subst k1;exact FH w h1 h2 (fun W=>dK ⟨1,te,tx,nu⟩ W) (fun W=>UO _ W) (fun W=>aEq 1 te tx W) rfl (aKl (by simp;exact eq_comm))
 by_cases k2:ki=2
 ·subst k2;exact FH w h1 h2 (fun W=>dK ⟨2,te,tx,nu⟩ W) (fun W=>UP _ W) (fun W=>aEr 2 nu ByteArray.empty W) rfl (aKl (by simp only [Bool.and_eq_true,beq_iff_eq,beq_self_eq_true,true_and,and_true];rw [eq_comm (a:=ByteArray.empty.toList),eq_comm (a:=ByteArray.empty.toList),aIc,aIc];simp))
 by_cases k3:ki=3
 ·subst k3;exact FH w h1 h2 (fun W=>dK ⟨3,te,tx,nu⟩ W) (fun W=>UQ _ W) (fun W=>aEp 3 nu te tx W) rfl (aKl (by simp))
 have HR:Hid (∀W,Calls Tryz.prog 112 #[.agg #[.int .i64 ki,.string te,.string tx,.int .i64 nu]] W fun e w'=>e=.returned (.tuple #[.nilIface,.bool false])∧Below W.heap.size W w'):=fun W=>by
  have:=dK ⟨ki,te,tx,nu⟩ W;have e1:fP ⟨ki,te,tx,nu⟩=.nilIface:=by unfold fP;simp [k1,k2,k3]
  have e2:xP ⟨ki,te,tx,nu⟩=false:=by unfold xP;simp [k1,k2,k3]
  rw [e1,e2] at this;exact this
 have E:Hid (WE ⟨ki,te,tx,nu⟩=false):=iA (jU (fun hh=>by rcases hh.2.2 with g | g | g;exact k1 g.1;exact k2 g.1;exact k3 g));unfold aMx;clear k1 k2 k3;go_enter Tryz.func73,Tryz.ntmps73;go_wp2_with fail;refine (HR.out _).mono ?_;rintro e w1 ⟨rfl,hb1⟩;have B1:Hid _:=rA (bA _ _) hb1;have hne:=pA.there w1;clear hb1;go_wp2_with fail;refine fA (by kernel_rfl) (by kernel_rfl) ?_;repeat (go_big_quiet_step (fail))
 refine wpQuiet_nil ?_;rintro _ ⟨x,rfl⟩;have BX:Hid _:=rA B1.out x.h;go_wp2;go_ret;exact ⟨jA E.out.symm,BX.out⟩
def aNy (rs:List pC):Prop:=∀i (h:i<rs.length),rs[i].tenant.size≤1000000000∧rs[i].text.size≤1000000000
theorem UG (v:Int) (w:World):Calls Tryz.prog 74 #[.int .i64 v] w fun e w'=>e=.returned (.string (nC 1 v))∧Below w.heap.size w w':=by
 have HC:Hid (∀W,Calls Tryz.prog 117 #[.int .i64 v,.int .i64 1] W fun e w'=>e=.returned (.string (nC 1 v))∧Below W.heap.size W w'):=fun W=>bH 1 v W (by omega);generalize nC 1 v=N at *;go_enter Tryz.func74,Tryz.ntmps74;go_wp2_with fail;refine (HC.out _).mono ?_;rintro e w1 ⟨rfl,hb1⟩;have HB:Hid _:=hb1;clear hb1;go_wp2;go_ret;exact ⟨rfl,HB.out⟩
theorem UF (v:Int) (w:World):Calls Tryz.prog 72 #[.int .i64 v] w fun e w'=>e=.returned (.string (nC 2 v))∧Below w.heap.size w w':=by
 have HC:Hid (∀W,Calls Tryz.prog 117 #[.int .i64 v,.int .i64 2] W fun e w'=>e=.returned (.string (nC 2 v))∧Below W.heap.size W w'):=fun W=>bH 2 v W (by omega);generalize nC 2 v=N at *;go_enter Tryz.func72,Tryz.ntmps72;go_wp2_with fail;refine (HC.out _).mono ?_;rintro e w1 ⟨rfl,hb1⟩;have HB:Hid _:=hb1;clear hb1;go_wp2;go_ret;exact ⟨rfl,HB.out⟩
theorem AU (v:Int) (w:World):Calls Tryz.prog 71 #[.int .i64 v] w fun e w'=>e=.returned (.string (nC 8 v))∧Below w.heap.size w w':=by
 have HC:Hid (∀W,Calls Tryz.prog 117 #[.int .i64 v,.int .i64 8] W fun e w'=>e=.returned (.string (nC 8 v))∧Below W.heap.size W w'):=fun W=>bH 8 v W (by omega);generalize nC 8 v=N at *;go_enter Tryz.func71,Tryz.ntmps71;go_wp2_with fail;refine (HC.out _).mono ?_;rintro e w1 ⟨rfl,hb1⟩;have HB:Hid _:=hb1;clear hb1;go_wp2;go_ret;exact ⟨rfl,HB.out⟩
def tS (rs:List pC):List ByteArray:=rs.flatMap fun r=>[nC 1 r.kind,kY r.tenant,iJ r.text,nC 8 r.num]
theorem WC (rs:List pC) (k:Nat) (h:k<rs.length):tS (rs.take (k+1))=tS (rs.take k)++[nC 1 rs[k].kind,kY rs[k].tenant,iJ rs[k].text,nC 8 rs[k].num]:=by
 unfold tS;rw [List.take_succ_eq_append_getElem h,List.flatMap_append];rfl
theorem DX:∀(rs:List pC),sK (tS rs)=rI rs
 | []=>rfl
 | r :: q=>by
   have e:tS (r :: q)=[nC 1 r.kind,kY r.tenant,iJ r.text,nC 8 r.num]++tS q:=rfl;rw [e,xZ,DX q,rI];simp [sK,OD,ByteArray.append_assoc]
theorem TW (lsn:Int) (a:Option Addr) (cap:Nat) (rs:List pC) (w:World) (hf:oE w a rs) (hB:aNy rs) (hlen:rs.length≤2000000):
 Calls Tryz.prog 35 #[.agg #[.int .i64 lsn,.slice a rs.length cap]] w fun e w'=>e=.returned (.string (eJ lsn rs))∧Below w.heap.size w w':=by
 by_cases c1:lsn<1
 ·have E:Hid (eJ lsn rs=ByteArray.empty):=nO fun h=>by have:=h.1;omega
  rw [E.out];clear hf hB;go_enter Tryz.func35,Tryz.ntmps35;go_wp2;go_ret;exact ⟨rfl,bA _ _⟩
 by_cases c2:lsn > 1000000000000000
 ·have E:Hid (eJ lsn rs=ByteArray.empty):=nO fun h=>by have:=h.2.1;omega
  rw [E.out];clear hf hB;go_enter Tryz.func35,Tryz.ntmps35;go_wp2;go_ret;exact ⟨rfl,bA _ _⟩
 by_cases c3:(rs.length:Int)<1
 ·have E:Hid (eJ lsn rs=ByteArray.empty):=nO fun h=>by have:=h.2.2.1;omega
  rw [E.out];clear hf hB;go_enter Tryz.func35,Tryz.ntmps35;go_wp2;go_ret;exact ⟨rfl,bA _ _⟩
 by_cases c4:(rs.length:Int) > 500
 ·have E:Hid (eJ lsn rs=ByteArray.empty):=nO fun h=>by have:=h.2.2.2.1;omega
  rw [E.out];clear hf hB;go_enter Tryz.func35,Tryz.ntmps35;go_wp2;go_ret;exact ⟨rfl,bA _ _⟩
 have HF:Hid (oE w a rs):=hf;have HB:Hid (aNy rs):=hB;have HU64:Hid _:=fun W=>AU lsn W;have HU16:Hid _:=fun W=>UF (rs.length:Nat) W;have hz8:=yB 8 lsn;have hz2:=yB 2 (rs.length:Nat);have HKB:Hid (zT lsn rs→eJ lsn rs=nC 8 lsn++nC 2 (rs.length:Nat)++rI rs):=fun h=>NI h;have HOK:Hid (aDj rs→zT lsn rs):=fun h=>⟨by omega,by omega,by omega,by omega,h⟩
 generalize nC 8 lsn=N8 at *;generalize nC 2 (rs.length:Nat)=N2 at *;obtain ⟨ti,hti,ht0,ht1,ht2⟩:=aEy;have HI:Hid _:=hti;clear hf hB hti;go_enter Tryz.func35,Tryz.ntmps35;go_upto_region 3 with fail;have X6:Hid (lA (w.alloc (.cells #[.int .i64 lsn,.slice a rs.length cap] 70)) w.heap.size #[.int .i64 lsn,.slice a rs.length cap] 70):=lA.new _ _ _;have B0:Hid (Below w.heap.size w (w.alloc (.cells #[.int .i64 lsn,.slice a rs.length cap] 70))):=bA _ _;generalize w.alloc (.cells #[.int .i64 lsn,.slice a rs.length cap] 70)=w0 at *;have HK:Hid (∀w',Below w0.heap.size w0 w'→w'.cell? ⟨w.heap.size,0,none⟩=some (.int .i64 lsn)∧w'.cell? ⟨w.heap.size,1,none⟩=some (.slice a rs.length cap)):=fun w' h=>by
  have q:=X6.out.later h;exact ⟨q.cell 0,q.cell 1⟩
 obtain ⟨x0,x1⟩:=HK.out w0 (Below.refl _ _);go_cut [3] (fun s wx=>∃g,s=.slice (some ⟨g,0,none⟩) 2 2∧w0.heap.size≤g∧wx.heap[g]?=some (.cells #[.string N8,.string N2] 9 (0,0))∧Below w0.heap.size w0 wx)
 case first=>
  go_region_held3 (fun w'=>w'.cell? ⟨w.heap.size,0,none⟩=some (.int .i64 lsn)∧w'.cell? ⟨w.heap.size,1,none⟩=some (.slice a rs.length cap))
   (first | go_keep | exact HK.out _ k4 | exact HK.out _ k3)
   (first
    | (go_at_call 71;refine (HU64.out _).mono ?_;rintro e w3 ⟨rfl,hb3⟩;have k3:Below w0.heap.size w0 w3:=(by exact rA (Below.refl _ _).drew hb3))
    | (go_at_call 72;refine (HU16.out _).mono ?_;rintro e w4 ⟨rfl,hb4⟩;have k4:Below w0.heap.size w0 w4:=(by exact rA k3 hb4)))
  all_goals (go_wp2_with fail;go_meet)
  all_goals exact ⟨_,rfl,k4.size,heap_alloc_new _ _,rA k4 (bA _ _)⟩
 obtain ⟨g0,rfl,hg0,hblk0,hbx⟩:=hcut;rename World=>w5;have B5:Hid _:=rA B0.out hbx;have HBL:Hid (w5.heap[g0]?=some (.cells #[.string N8,.string N2] 9 (0,0))∧w.heap.size≤g0):=⟨hblk0,Nat.le_trans B0.out.size hg0⟩
 have HK5:Hid _:=fun w' h=>HK.out w' (rA hbx h);obtain ⟨y0,y1⟩:=HK5.out w5 (Below.refl _ _);clear x0 x1 HK X6 hblk0 hg0 hbx B0 HU64 HU16 HK5;go_wp2;go_loopw [3,5,37] (fun out _ i wr=>∃(k:Nat) (ps:List ByteArray) (g cv:Nat),k≤rs.length∧i=.int .i64 k∧out=.slice (some ⟨g,0,none⟩) ps.length cv∧ps.length≤2+4 * k∧aS ps≤10+k * 3000000000∧Hid (ps=N8 :: N2 :: tS (rs.take k))∧Hid (∀j (h:j<rs.length),j<k→cK rs[j])∧Hid (wr.ownsRow w.heap.size 9 1 (.slice (some ⟨g,0,none⟩) ps.length cv) ps.length (ps.map Value.string))∧Below w.heap.size w wr) (fun _ _ i _=>rs.length - (intOf i).toNat)
 case atStart=>
  exact ⟨0,[N8,N2],_,_,Nat.zero_le _,rfl,rfl,by simp,by simp [aS];omega,rfl,fun j _ h=>absurd h (by omega),⟨rfl,Or.inr ⟨g0,2,_,rfl,HBL.out.2,HBL.out.1,Nat.le_refl _,by simp [maxLen],rfl,rfl⟩⟩,B5.out⟩
 case round=>
  obtain ⟨k,ps,g,cv,hk,rfl,rfl,hpl,hps,HPS,HALL,HROW,hbel⟩:=hrel;by_cases hlt:k<rs.length
  ·obtain ⟨b,o,rfl,hb,c0,c1,c2,c3⟩:=(HF.out.later hbel).at hlt;obtain ⟨hn1,hn2⟩:=HB.out k hlt;have HEN:Hid (∀W,Calls Tryz.prog 73 #[.agg #[.int .i64 rs[k].kind,.string rs[k].tenant,.string rs[k].text,.int .i64 rs[k].num]] W fun e w'=>e=.returned (.bool (WE rs[k]))∧Below W.heap.size W w'):=fun W=>aFe rs[k] W hn1 hn2;by_cases hok:cK rs[k]
   ·rw [MD hok] at HEN;have HK1:Hid (∀W,Calls Tryz.prog 74 #[.int .i64 rs[k].kind] W fun e w'=>e=.returned (.string (nC 1 rs[k].kind))∧Below W.heap.size W w'):=fun W=>UG _ W;have HS8:Hid _:=fun W=>ZH rs[k].tenant W hn1;have HS16:Hid _:=fun W=>UE rs[k].text W hn2;have HN8:Hid (∀W,Calls Tryz.prog 71 #[.int .i64 rs[k].num] W fun e w'=>e=.returned (.string (nC 8 rs[k].num))∧Below W.heap.size W w'):=fun W=>AU _ W;have hq1:=yB 1 rs[k].kind;have hq2:=vS rs[k].tenant;have hq3:=dQ rs[k].text;have hq4:=yB 8 rs[k].num;have HA2:Hid (∀j (h:j<rs.length),j<k+1→cK rs[j]):=fun j h hj=>by
     rcases Nat.lt_or_ge j k with h1 | h1
     ·exact HALL.out j h h1
     ·obtain rfl:j=k:=by omega
      exact hok
    have HT:=WC rs k hlt;have E2:Hid (ps++[nC 1 rs[k].kind,kY rs[k].tenant,iJ rs[k].text,nC 8 rs[k].num]=N8 :: N2 :: tS (rs.take (k+1))):=by show _=_;rw [HT,HPS.out];rfl
    clear HT hok HALL;generalize nC 1 rs[k].kind=S1 at *;generalize kY rs[k].tenant=S2 at *;generalize iJ rs[k].text=S3 at *;generalize nC 8 rs[k].num=S4 at *;generalize rs[k].kind=ki at *;generalize rs[k].tenant=te at *;generalize rs[k].text=tx at *;generalize rs[k].num=nu at *;have hnb:¬b=wr.heap.size:=by omega
    have hsz:=hbel.size;have HBX:Hid (lA (wr.alloc (.cells #[.int .i64 ki,.string te,.string tx,.int .i64 nu] 77)) wr.heap.size #[.int .i64 ki,.string te,.string tx,.int .i64 nu] 77∧Below wr.heap.size wr (wr.alloc (.cells #[.int .i64 ki,.string te,.string tx,.int .i64 nu] 77))):=⟨heap_alloc_new _ _,bA _ _⟩
    have HR2:Hid ((wr.alloc (.cells #[.int .i64 ki,.string te,.string tx,.int .i64 nu] 77)).ownsRow w.heap.size 9 1 (.slice (some ⟨g,0,none⟩) ps.length cv) ps.length (ps.map Value.string)∧Below w.heap.size w (wr.alloc (.cells #[.int .i64 ki,.string te,.string tx,.int .i64 nu] 77))):=⟨yA HROW.out (bA _ _),rA hbel (bA _ _)⟩
    have hgB:=(GV HROW.out).2.1;go_wp2_with fail;refine (HEN.out _).mono ?_;rintro e W ⟨rfl,hbW⟩;have HBX':Hid (lA W wr.heap.size #[.int .i64 ki,.string te,.string tx,.int .i64 nu] 77):=HBX.out.1.later hbW;have HR2':Hid (W.ownsRow w.heap.size 9 1 (.slice (some ⟨g,0,none⟩) ps.length cv) ps.length (ps.map Value.string)∧Below w.heap.size w W):=⟨yA HR2.out.1 hbW,rA HR2.out.2 hbW⟩
    have x0:W.cell? ⟨wr.heap.size,0,none⟩=some (.int .i64 ki):=HBX'.out.cell 0;have x1:W.cell? ⟨wr.heap.size,1,none⟩=some (.string te):=HBX'.out.cell 1;have x2:W.cell? ⟨wr.heap.size,2,none⟩=some (.string tx):=HBX'.out.cell 2;have x3:W.cell? ⟨wr.heap.size,3,none⟩=some (.int .i64 nu):=HBX'.out.cell 3;have hBX:=aA HBX'.out;have hww:=HR2'.out.2.size;clear HROW HBX HBX' HR2 hnb hb c0 c1 c2 c3 hbel hsz hbW HEN;go_wp2_with fail;generalize wr.heap.size=BX at *;clear wr;have HKX:Hid (∀w',Below W.heap.size W w'→w'.cell? ⟨BX,0,none⟩=some (.int .i64 ki)∧w'.cell? ⟨BX,1,none⟩=some (.string te)∧w'.cell? ⟨BX,2,none⟩=some (.string tx)∧w'.cell? ⟨BX,3,none⟩=some (.int .i64 nu)):=fun w' h=>⟨(h.cell hBX).trans x0,(h.cell hBX).trans x1,(h.cell hBX).trans x2,(h.cell hBX).trans x3⟩
    go_region_held3 (fun w'=>w'.cell? ⟨BX,0,none⟩=some (.int .i64 ki)∧w'.cell? ⟨BX,1,none⟩=some (.string te)∧w'.cell? ⟨BX,2,none⟩=some (.string tx)∧w'.cell? ⟨BX,3,none⟩=some (.int .i64 nu))
     (first
      | go_keep
      | exact hkx5
      | exact HKX.out _ (hc4.alloc hc4.size _)
      | exact HKX.out _ hc4
      | exact HKX.out _ hc3
      | exact HKX.out _ hc2
      | exact HKX.out _ hc1)
     ((first
       | (go_at_call 74;refine (HK1.out _).mono ?_;rintro e w1 ⟨rfl,hb1⟩;have hc1:Below W.heap.size W w1:=(Below.refl _ W).drew.trans hb1)
       | (go_at_call 75;refine (HS8.out _).mono ?_;rintro e w2 ⟨rfl,hb2⟩;have hc2:Below W.heap.size W w2:=hc1.trans (hb2.mono hc1.size))
       | (go_at_call 76;refine (HS16.out _).mono ?_;rintro e w3 ⟨rfl,hb3⟩;have hc3:Below W.heap.size W w3:=hc2.trans (hb3.mono hc2.size))
       | (go_at_call 71;refine (HN8.out _).mono ?_;rintro e w4 ⟨rfl,hb4⟩;have hc4:Below W.heap.size W w4:=hc3.trans (hb4.mono hc3.size))
       | (refine mH _ (by rfl) _ _ _ (by rfl) w.heap.size 9 ti _ 1 16 Tryz.underlying123 HI.out ht0 ht1 ht2 rfl (by omega) g ps.length cv _ (by rfl) (by exact yA (yA HR2'.out.1 hc4) (bA _ _)) _ 4 4 [.string S1,.string S2,.string S3,.string S4] (by rfl) rfl (by exact Or.inr ⟨_,rfl,World.news_of_block (cs:=#[.string S1,.string S2,.string S3,.string S4]) (heap_alloc_new _ _)⟩) (by simp [Value.oneCell']) (by simp [maxLen];omega) (by omega) (by have:=hc4.size;simp;omega) ?_;intro g5 cap5 w5 hown5 hB5 hk5 hg5 hat5 hlt5;have hkx5:w5.cell? ⟨BX,0,none⟩=some (.int .i64 ki)∧w5.cell? ⟨BX,1,none⟩=some (.string te)∧w5.cell? ⟨BX,2,none⟩=some (.string tx)∧w5.cell? ⟨BX,3,none⟩=some (.int .i64 nu):=(by have q:=HKX.out _ (hc4.alloc hc4.size (.cells #[.string S1,.string S2,.string S3,.string S4] 9));have hne:=hk5 BX (by have:=hc4.size;simp;omega) (by omega);exact ⟨(World.cell?_of_block hne).trans q.1,(World.cell?_of_block hne).trans q.2.1,(World.cell?_of_block hne).trans q.2.2.1,(World.cell?_of_block hne).trans q.2.2.2⟩);have hB5':Below w.heap.size w w5:=((rA HR2'.out.2 hc4).alloc (Nat.le_trans hww hc4.size) _).trans hB5)))
    have hxs:ps.map Value.string++[Value.string S1,.string S2,.string S3,.string S4]=(ps++[S1,S2,S3,S4]).map Value.string:=by simp
    have hle:(ps++[S1,S2,S3,S4]).length=ps.length+4:=by simp
    have hsm:aS (ps++[S1,S2,S3,S4])=aS ps+(S1.size+(S2.size+(S3.size+S4.size))):=by rw [BT];simp [aS]
    rw [hxs,←hle] at hown5;rw [←hle];have HO5:Hid (w5.ownsRow w.heap.size 9 1 (.slice (some ⟨g5,0,none⟩) (ps++[S1,S2,S3,S4]).length cap5) (ps++[S1,S2,S3,S4]).length ((ps++[S1,S2,S3,S4]).map Value.string)∧Below w.heap.size w w5):=⟨hown5,hB5'⟩
    clear hown5 hB5 hB5' hk5 hat5 hkx5 hxs;generalize ps++[S1,S2,S3,S4]=ps5 at *;go_wp2;exact ⟨⟨k+1,ps5,g5,cap5,by omega,by go_num,rfl,by omega,by omega,E2.out,HA2.out,HO5.out.1,HO5.out.2⟩,by simp [intOf];omega⟩
   ·have E:Hid _:=aBt hlt hok lsn;rw [jU hok] at HEN;generalize rs[k].kind=ki at *;generalize rs[k].tenant=te at *;generalize rs[k].text=tx at *;generalize rs[k].num=nu at *;clear hok HALL HROW;go_wp2_with fail;refine (HEN.out _).mono ?_;rintro e W ⟨rfl,hbW⟩;have BW:Hid _:=rA (rA hbel (bA _ _)) hbW;clear hbW HEN;go_wp2;go_ret;exact ⟨by rw [E.out];rfl,BW.out⟩
  ·have hall:aDj rs:=fun j h=>HALL.out j h (by omega);have E2:Hid (sK ps=eJ lsn rs):=by
    show _=_;rw [HPS.out,List.take_of_length_le (by omega),sK,sK,DX,HKB.out (HOK.out hall),ByteArray.append_assoc]
   obtain ⟨hcv,hg,hcs⟩:=GV HROW.out;have HJ:Hid (Calls Tryz.prog 77 #[.slice (some ⟨g,0,none⟩) ps.length cv] wr fun e w'=>e=.returned (.string (sK ps))∧Below wr.heap.size wr w'):=eV g ps.length cv ps wr rfl hcs hg hcv (by omega) (by omega);rw [E2.out] at HJ;clear HROW hcs hall;go_wp2_with fail;refine HJ.out.mono ?_;rintro e w2 ⟨rfl,hb2⟩;have B2:Hid _:=rA hbel hb2;clear hb2;go_wp2;go_ret;exact ⟨rfl,B2.out⟩
end Go.Proofs.YtcneojllbkacoaaGreatDoor
