import Derived.Test.YtjpeimianeiegaaGreatDoorJ43
set_option maxRecDepth 100000
set_option maxHeartbeats 8000000
namespace Go.Proofs.YtjpeimianeiegaaGreatDoor
open Go.RowKit Tryz
theorem YY {P:Program} (ρ:Operand->Value) (o:Oper) (r:Operand) (name:String) (a:o.op=.call { callee:=.invoke r name,args:=#[],argTypes:=#[] }) {u:Value} (b:ρ r=u) {n:Next} {w:World}
 (h:(invoke (.fn (.method name) #[]) #[u]).run P w=.ok n w):(execOp ρ o).run P w=.ok n w:=by
 unfold execOp;simp only[a,resolve];simp[b,h]
theorem dh {P:Program} {c:Array Oper} {C:World->Prop} {Q:Act->Prop} {a:Act} {o:Oper} {b:List Oper} {f:FuncId} {args:Array Value} {v:Value} (hw:Region.wanted o (yielded c a.tmps)=true)
 (j:∀w,(execOp a.eval o).run P w=.ok (.enter f args) w) (i:∀w,C w->Calls P f args w (fun e d=>e=.returned v/\C d)) (h:wpQuiet P c C Q b (a.put o.dst v)):wpQuiet P c C Q (o::b) a:=
 BigFrame.wpQuiet_want hw fun K g=>⟨v,fun w hw=>by unfold Oper.quietAt;rw[j];exact⟨rfl,i w hw⟩,g _ h⟩
theorem pt {P:Program} {c:Array Oper} {C:World->Prop} {Q:Act->Prop} {a:Act} {o:Oper} {b:List Oper} {v:Value} (hw:Region.wanted o (yielded c a.tmps)=true)
 (e:∀w,(execOp a.eval o).run P w=.ok (.value v) w) (h:wpQuiet P c C Q b (a.put o.dst v)):wpQuiet P c C Q (o::b) a:=
 BigFrame.wpQuiet_want hw fun K d=>⟨v,fun w hw=>by unfold Oper.quietAt;rw[e];exact⟨rfl,rfl⟩,d _ h⟩
theorem aNr (k a n b:Int) (t c x d:ByteArray) (W:World):(binOp .eql 122 (.agg #[.int .i64 k,.string t,.string x,.int .i64 n]) (.agg #[.int .i64 a,.string c,.string d,.int .i64 b])).run prog W=.ok (.bool (k==a&&(t.toList==c.toList&&(x.toList==d.toList&&n==b)))) W:=by
 rw[run_eql_struct,run_equalIn_agg W _ _ _ _ (by kernel_rfl) (by kernel_rfl)];unfold Program.fieldsOf;rw[underlying122];simp[Op.eqFields,go_sem,underlying3,underlying9];repeat' split
 all_goals simp_all
theorem gz (ρ:Operand->Value) (o:Oper) (p q:Operand) (g:o.op=.binOp .eql 122 p q 122) {k a n c:Int} {t d x e:ByteArray}
 (h:ρ p=.agg #[.int .i64 k,.string t,.string x,.int .i64 n]) (i:ρ q=.agg #[.int .i64 a,.string d,.string e,.int .i64 c]) {b:Bool} (f:(k==a&&(t.toList==d.toList&&(x.toList==e.toList&&n==c)))=b) (W:World):
 (execOp ρ o).run prog W=.ok (.value (.bool b)) W:=by
 unfold execOp;simp only[g,h,i,Sem.run_bind,run_eqGuard_agg W _ _ _ _ _ _ (show prog.eqGuardType prog.depth 122=false by kernel_rfl),Result.andThen_ok,aNr,f,Sem.run_pure]
theorem aEo {x:ByteArray}:x.toList=ByteArray.empty.toList ↔ x.size=0:=by
 rw[ByteArray.toList_eq,ByteArray.toList_eq];constructor
 ·intro h;show x.data.size=0;rw[<-Og,h];rfl
 ·intro h;have:x.data.toList.length=0:=by simpa using h
  rw[Fb.1 this];rfl
theorem PN {k i r j:Int} {a c l m:ByteArray} {p:TypeId} {s:Value} {f:FuncId} {args:Array Value} {b:Bool} (w:World) (_h1:a.size<=1000000000) (_h2:c.size<=1000000000)
 (B:Hid (∀W,Calls prog 147 #[.agg #[.int .i64 k,.string a,.string c,.int .i64 i]] W fun e n=>e=.returned (.tuple #[.iface p s,.bool true])/\Below W.heap.size W n))
 (A : Hid (∀ W, (invoke (.fn (.method "loop.example/s02176/impl.flat") #[]) #[.iface p s]).run prog W = .ok (.enter f args) W)) (y : Hid (∀ W, Calls prog f args W fun e n => e = .returned (.agg #[.int .i64 r, .string l, .string m, .int .i64 j]) /\ Below W.heap.size W n))
 (z:Hid ((r==k&&(l.toList==a.toList&&(m.toList==c.toList&&j==i)))=b)) (E:Hid (mm ⟨k,a,c,i⟩=(b&&(decide ((a.size:Int)<=255) &&decide ((c.size:Int)<=65535))))):
 Calls prog 183 #[.agg #[.int .i64 k,.string a,.string c,.int .i64 i]] w fun e n=>e=.returned (.bool (mm ⟨k,a,c,i⟩))/\Below w.heap.size w n:=by
 have o:b=false\/b=true/\decide ((a.size:Int)<=255)=false\/b=true/\decide ((a.size:Int)<=255)=true:=by cases b<;>cases decide ((a.size:Int)<=255)<;>simp
 rcases o with rfl|⟨rfl,q⟩|⟨rfl,q⟩
 all_goals
  try rw[q]at E
  go_enter func183,ntmps183;go_wp2_with fail;refine(B.out _).mono ?_;rintro e t ⟨rfl,g⟩;have u:Hid _:=pA (cA _ _) g;have d:=fun x:oA t=>(((lA.new w #[.int .i64 k,.string a,.string c,.int .i64 i] 122).later g).later x.h).c4;simp only[forall_and]at d;obtain⟨D,F,G,H⟩:=d;have C:=oA.there t;clear g;go_wp2_with fail;refine jA (by kernel_rfl) (by kernel_rfl) ?_;repeat (go_big_quiet_step (fail))
  refine dh (by rfl) (fun W=>YY _ _ _ _ rfl rfl (A.out W)) (by rintro _ ⟨x,rfl⟩;exact tA (y.out _)) ?_;simp only[Act.put,Md,Ad,Ye];repeat (go_big_quiet_step (fail))
  first
   |(refine pt (by rfl) (gz _ _ _ _ rfl rfl rfl z.out) ?_;simp only[Act.put,Md,Ad,Ye];repeat (go_big_quiet_step (fail)))
   |skip
  refine wpQuiet_nil ?_;rintro _ ⟨x,rfl⟩;have v:=bA (pA u.out x.h);go_wp2;go_ret;exact⟨kA (by rw[E.out];simp),v.out⟩
theorem aHt {r:dE} {b:Bool} (h:(r.kind=1/\r.num=0)\/(r.kind=2/\r.n9.size=0/\r.text.size=0)\/r.kind=3 ↔ b=true):mm r=(b&&(decide ((r.n9.size:Int)<=255) &&decide ((r.text.size:Int)<=65535))):=by
 by_cases a:aM r
 ·rw[WN a,h.1 a.2.2,Rb (by have:=a.1;omega),Rb (by have:=a.2.1;omega)];rfl
 ·rw[pZ a];refine(Ic.2 fun e=>a ?_).symm;simp only[Na,Ya]at e;exact⟨by omega,by omega,h.2 e.1⟩
theorem aBe (r:dE) (w:World) (m:r.n9.size<=1000000000) (n:r.text.size<=1000000000):
 Calls prog 183 #[aLx r] w fun e o=>e=.returned (.bool (mm r))/\Below w.heap.size w o:=by
 obtain⟨f,c,d,b⟩:=r;by_cases j:f=1
 ·subst j;exact PN w m n (fun W=>tM ⟨1,c,d,b⟩ W) (fun W=>jn _ W) (fun W=>aAn 1 c d W) rfl (aHt (by simp;exact eq_comm))
 by_cases k:f=2
 ·subst k;exact PN w m n (fun W=>tM ⟨2,c,d,b⟩ W) (fun W=>jo _ W) (fun W=>aAo 2 b ByteArray.empty W) rfl (aHt (by simp only[Na,Jf,beq_self_eq_true,true_and,Ub];rw[eq_comm (a:=ByteArray.empty.toList),eq_comm (a:=ByteArray.empty.toList),aEo,aEo];simp))
 by_cases l:f=3
 ·subst l;exact PN w m n (fun W=>tM ⟨3,c,d,b⟩ W) (fun W=>jq _ W) (fun W=>aAm 3 b c d W) rfl (aHt (by simp))
 have s:Hid (∀W,Calls prog 147 #[.agg #[.int .i64 f,.string c,.string d,.int .i64 b]] W fun e o=>e=.returned (.tuple #[.nilIface,.bool false])/\Below W.heap.size W o):=fun W=>by
  have:=tM ⟨f,c,d,b⟩ W;have t:zS ⟨f,c,d,b⟩=.nilIface:=by unfold zS;simp[j,k,l]
  have u:zT ⟨f,c,d,b⟩=false:=by unfold zT;simp[j,k,l]
  rw[t,u]at this;exact this
 have E:Hid (mm ⟨f,c,d,b⟩=false):=bA (pZ (fun hh=>by rcases hh.2.2 with g|g|g;exact j g.1;exact k g.1;exact l g));unfold aLx;clear j k l;go_enter func183,ntmps183;go_wp2_with fail;refine(s.out _).mono ?_;rintro e y ⟨rfl,i⟩;have p:Hid _:=pA (cA _ _) i;have v:=oA.there y;clear i;go_wp2_with fail;refine jA (by kernel_rfl) (by kernel_rfl) ?_;repeat (go_big_quiet_step (fail))
 refine wpQuiet_nil ?_;rintro _ ⟨x,rfl⟩;have q:Hid _:=pA p.out x.h;go_wp2;go_ret;exact⟨kA E.out.symm,q.out⟩
structure aPi (w:World) (a:Option Addr) (K:kB):Prop where
 files:iA w a K.fs
 fit:GB K.fs
 sum:xA K.fs≤1048576
theorem aKq:(prog.info? 37).map (·.size)=some 14:=by kernel_rfl
theorem aHc {b:Func} {a:Act} {W:World} {R:Nat} {cs:Array Value} {T:TypeId} {x:Int} (h:b.results=#[.cell 4 37,.tmp 5]) (d:a.tmps.getD 4 undef=.pointer (some ⟨R,0,none⟩)) (e:a.tmps.getD 5 undef=.int .i64 x) (f:lA W R cs T) (g:C14 cs):(results b a.tmps).run prog W=.ok (.tuple #[.agg cs,.int .i64 x]) W:=by
 have:=run_loadVar_row (P:=prog) W R T 37 cs (0,0) _ f underlying37 rfl (by rw[aKq,g.size]);simp at d e;simp[results,h,d,e,asAddr,this]
structure OP (w W:World) (c:nB) (a:Option Addr) (ca:Nat) (K:kB):Prop where
 C:lA W w.heap.size #[.int .i64 c.w,.int .i64 c.tl,.int .i64 c.ml,.int .i64 c.sh,.int .i64 c.ha,.int .i64 c.sg] 40
 D:lA W (w.heap.size+1) #[.slice a K.fs.length ca,.int .i64 K.c,.int .i64 K.k,.int .i64 K.cr,.int .i64 K.fl,.bool K.dn] 30
 R:lA W (w.heap.size+1+1) (cG none 0 none 0 wO) 37
 B:Below w.heap.size w W
section
variable {w W W':World} {c:nB} {a a':Option Addr} {ca ca':Nat} {K K':kB}
theorem OP.new:OP w (((w.alloc (.cells #[.int .i64 c.w,.int .i64 c.tl,.int .i64 c.ml,.int .i64 c.sh,.int .i64 c.ha,.int .i64 c.sg] 40)).alloc (.cells #[.slice a K.fs.length ca,.int .i64 K.c,.int .i64 K.k,.int .i64 K.cr,.int .i64 K.fl,.bool K.dn] 30)).alloc (.cells (cG none 0 none 0 wO) 37)) c a ca K:=
 ⟨((lA.new _ _ _).alloc _).alloc _,by have:=(lA.new (w.alloc (.cells #[.int .i64 c.w,.int .i64 c.tl,.int .i64 c.ml,.int .i64 c.sh,.int .i64 c.ha,.int .i64 c.sg] 40)) #[.slice a K.fs.length ca,.int .i64 K.c,.int .i64 K.k,.int .i64 K.cr,.int .i64 K.fl,.bool K.dn] 30).alloc (.cells (cG none 0 none 0 wO) 37);simpa using this,
   by have:=lA.new ((w.alloc (.cells #[.int .i64 c.w,.int .i64 c.tl,.int .i64 c.ml,.int .i64 c.sh,.int .i64 c.ha,.int .i64 c.sg] 40)).alloc (.cells #[.slice a K.fs.length ca,.int .i64 K.c,.int .i64 K.k,.int .i64 K.cr,.int .i64 K.fl,.bool K.dn] 30)) (cG none 0 none 0 wO) 37;simpa using this,pA (pA (cA _ _) (cA _ _)) (cA _ _)⟩
theorem OP.later (h:OP w W c a ca K) (b:Below W.heap.size W W'):OP w W' c a ca K:=⟨h.C.later b,h.D.later b,h.R.later b,pA h.B b⟩
theorem OP.lt (h:OP w W c a ca K):w.heap.size+1+1<W.heap.size:=aA h.R
theorem OP.cells (h:OP w W c a ca K):W.cell? ⟨w.heap.size,0,none⟩=some (.int .i64 c.w)/\W.cell? ⟨w.heap.size,1,none⟩=some (.int .i64 c.tl)/\W.cell? ⟨w.heap.size,2,none⟩=some (.int .i64 c.ml)/\W.cell? ⟨w.heap.size,3,none⟩=some (.int .i64 c.sh)/\W.cell? ⟨w.heap.size,4,none⟩=some (.int .i64 c.ha)/\W.cell? ⟨w.heap.size,5,none⟩=some (.int .i64 c.sg)/\W.cell? ⟨w.heap.size+1,0,none⟩=some (.slice a K.fs.length ca)/\W.cell? ⟨w.heap.size+1,1,none⟩=some (.int .i64 K.c)/\W.cell? ⟨w.heap.size+1,2,none⟩=some (.int .i64 K.k)/\W.cell? ⟨w.heap.size+1,3,none⟩=some (.int .i64 K.cr)/\W.cell? ⟨w.heap.size+1,4,none⟩=some (.int .i64 K.fl)/\W.cell? ⟨w.heap.size+1,5,none⟩=some (.bool K.dn)/\JG W (w.heap.size+1+1)/\w.heap.size<W.heap.size/\w.heap.size+1<W.heap.size/\w.heap.size+1+1<W.heap.size/\¬w.heap.size=W.heap.size/\¬w.heap.size+1=W.heap.size/\¬w.heap.size+1+1=W.heap.size:=
 have:=h.lt
 ⟨h.C.cell 0,h.C.cell 1,h.C.cell 2,h.C.cell 3,h.C.cell 4,h.C.cell 5,h.D.cell 0,h.D.cell 1,h.D.cell 2,h.D.cell 3,h.D.cell 4,h.D.cell 5,h.R.box rfl,by omega,by omega,this,by omega,by omega,by omega⟩
end
theorem aJd {c:nB} {b a:Int} {d:List eA} (h:iB c b d=true):sC c.w a (FY ⟨⟨#[]⟩,0,[],[]⟩ true d)=sC c.w a d:=by
 rw[sS (t:=⟨⟨#[]⟩,0,[],[]⟩) (lj h)]
theorem aKk:XZ ⟨⟨#[]⟩,0,[],[]⟩:=⟨Ha _,Ha _,fun i h=>absurd h (by simp)⟩
theorem bt (c:nB) (b:Int) (a:Option Addr) (h:Nat) (g:List eA) (d:Int) (w:World) (u:eC w a g) (i:g.length+nA g<=1100000) (m:iB c b g=true):
 Calls prog 55 #[tE c,.agg #[.int .i64 b,.slice a g.length h],.int .i64 d] w fun e y=>CC (RZ c b g d) w e y:=by
 obtain⟨Y,J,Z,f4⟩:=AL i;obtain⟨-,hn0,hn1,r,-⟩:=jI m;have z:=bA (fun W (q:Below w.heap.size w W)=>vI c b a h g W (u.later q) J (by omega));have l:=bA (fun W (q:Below w.heap.size w W)=>cR c b a h g W (u.later q) m i);have A:Hid (∀W f,Below w.heap.size w W->0<=f->f<=1000000000000->Calls prog 91 #[tE c,.agg #[.int .i64 b,.slice a g.length h],.int .i64 f,.agg #[.string ⟨#[]⟩,.int .i64 0,.slice none 0 0,.slice none 0 0]] W fun e y=>∃I p,e=.returned (.agg #[.int .i64 f,.slice I (sC c.w f g).length p])/\uC y W.heap.size I (sC c.w f g)/\Below W.heap.size W y):=fun W f q q0 q1=>by
  have:=AU c b f a h g ⟨⟨#[]⟩,0,[],[]⟩ none none 0 0 W (u.later q) (Ba rfl) (Ba rfl) (by omega) (fun x hx=>hx.elim (fun e=>e ▸ aKk) (MN m i x)) q0 (by omega);rw[show(⟨⟨#[]⟩,0,[],[]⟩:eA).name.toList.isEmpty=true from by kernel_rfl,aJd m]at this;exact this
 have D:(d<1\/¬d<1/\1000000000000-b<d)/\RZ c b g d=(b,g,false)\/¬d<1/\¬1000000000000-b<d/\RZ c b g d=(b+d,sC c.w (b+d) g,true):=by
  unfold RZ;rw[Ca (by rw[m];simp)];by_cases t:d<1<;>by_cases C:1000000000000-b<d<;>simp[t,C]
 rw[m]at z;clear u i Y J Z f4 m r;unfold CC;unfold tE at *;have P:=bA (wY.new (w:=w) (c:=c) (now:=b) (a:=a) (n:=g.length) (cap:=h));generalize RZ c b g d=V at *;rcases D with⟨t|⟨t,C⟩,E⟩|⟨t,C,E⟩
 all_goals
  have E:=bA E;go_enter func55,ntmps55;go_wp2_with(first
   |(go_at_call 47;refine(z.out _ P.out.B).mono ?_;rintro e wv ⟨rfl,j⟩;replace P:=bA (P.out.later j);clear j z;obtain⟨L,M,N,O,Q,R,S,T,-,-,-,-,K⟩:=P.out.cells)
   |(go_at_call 53;refine(l.out _ P.out.B).mono ?_;rintro e w9 ⟨G,H,rfl,s,j⟩;have o:=bA (P.out.later j);have k:=bA s;clear s j L M N O Q R S T l;obtain⟨-,-,-,-,-,-,-,-,U,X,g0,g1,F⟩:=o.out.cells)
   |(go_at_call 91;refine(A.out _ (b+d) P.out.B (by omega) (by omega)).mono ?_;rintro e w9 ⟨G,H,rfl,s,j⟩;have o:=bA (P.out.later j);have k:=bA s;clear s j L M N O Q R S T l;obtain⟨-,-,-,-,-,-,-,-,U,X,g0,g1,F⟩:=o.out.cells))
  refine bodyPost_ret (v:=?_) (by simp[results,results55,go_sem,U,X];rfl) rfl ?_;rw[E.out];first
   |exact⟨G,⟨H,rfl⟩,o.out.done k.out K⟩
   |exact⟨G,H,rfl,o.out.done k.out K⟩
