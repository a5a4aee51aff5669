import Derived.Test.YtabgbmfcbobamaaGreatDoorJ29
import Derived.Test.YtabgbmfcbobamaaGreatDoorJ30
set_option maxRecDepth 100000
set_option maxHeartbeats 4000000
namespace Go.Proofs.YtabgbmfcbobamaaGreatDoor
open Go.RowKit Tryz
theorem TA {P:Program} (ρ:Operand->Value) (o:Oper) (r:Operand) (name:String) (a:o.op=.call { callee:=.invoke r name,args:=#[],argTypes:=#[] }) {u:Value} (b:ρ r=u) {n:Next} {w:World}
 (h:(invoke (.fn (.method name) #[]) #[u]).run P w=.ok n w):(execOp ρ o).run P w=.ok n w:=by
 unfold execOp;simp only[a,resolve];simp[b,h]
theorem WA {P:Program} {c:Array Oper} {C:World->Prop} {Q:Act->Prop} {a:Act} {o:Oper} {b:List Oper} {f:FuncId} {args:Array Value} {v:Value} (hw:Region.wanted o (yielded c a.tmps)=true)
 (j:∀w,(execOp a.eval o).run P w=.ok (.enter f args) w) (i:∀w,C w->Calls P f args w (fun e d=>e=.returned v/\C d)) (h:wpQuiet P c C Q b (a.put o.dst v)):wpQuiet P c C Q (o::b) a:=
 BigFrame.wpQuiet_want hw fun K g=>⟨v,fun w hw=>by unfold Oper.quietAt;rw[j];exact⟨rfl,i w hw⟩,g _ h⟩
theorem cw {P:Program} {c:Array Oper} {C:World->Prop} {Q:Act->Prop} {a:Act} {o:Oper} {b:List Oper} {v:Value} (hw:Region.wanted o (yielded c a.tmps)=true)
 (e:∀w,(execOp a.eval o).run P w=.ok (.value v) w) (h:wpQuiet P c C Q b (a.put o.dst v)):wpQuiet P c C Q (o::b) a:=
 BigFrame.wpQuiet_want hw fun K d=>⟨v,fun w hw=>by unfold Oper.quietAt;rw[e];exact⟨rfl,rfl⟩,d _ h⟩
theorem aDz (k a n b:Int) (t c x d:ByteArray) (W:World):(binOp .eql 31 (.agg #[.int .i64 k,.string t,.string x,.int .i64 n]) (.agg #[.int .i64 a,.string c,.string d,.int .i64 b])).run prog W=.ok (.bool (k==a&&(t.toList==c.toList&&(x.toList==d.toList&&n==b)))) W:=by
 rw[run_eql_struct,run_equalIn_agg W _ _ _ _ (by kernel_rfl) (by kernel_rfl)];unfold Program.fieldsOf;rw[underlying31];simp[Op.eqFields,go_sem,underlying3,underlying9];repeat' split
 all_goals simp_all
theorem XQ (ρ:Operand->Value) (o:Oper) (p q:Operand) (g:o.op=.binOp .eql 31 p q 31) {k a n c:Int} {t d x e:ByteArray}
 (h:ρ p=.agg #[.int .i64 k,.string t,.string x,.int .i64 n]) (i:ρ q=.agg #[.int .i64 a,.string d,.string e,.int .i64 c]) {b:Bool} (f:(k==a&&(t.toList==d.toList&&(x.toList==e.toList&&n==c)))=b) (W:World):
 (execOp ρ o).run prog W=.ok (.value (.bool b)) W:=by
 unfold execOp;simp only[g,h,i,Sem.run_bind,run_eqGuard_agg W _ _ _ _ _ _ (show prog.eqGuardType prog.depth 31=false by kernel_rfl),Result.andThen_ok,aDz,f,Sem.run_pure]
theorem sk {x:ByteArray}:x.toList=ByteArray.empty.toList ↔ x.size=0:=by
 rw[ByteArray.toList_eq,ByteArray.toList_eq];constructor
 ·intro h;show x.data.size=0;rw[<-Ue,h];rfl
 ·intro h;have:x.data.toList.length=0:=by simpa using h
  rw[Qb.1 this];rfl
theorem KO {k i r j:Int} {a c l m:ByteArray} {p:TypeId} {s:Value} {f:FuncId} {args:Array Value} {b:Bool} (w:World) (_h1:a.size<=1000000000) (_h2:c.size<=1000000000)
 (B:Hid (∀W,Calls prog 57 #[.agg #[.int .i64 k,.string a,.string c,.int .i64 i]] W fun e n=>e=.returned (.tuple #[.iface p s,.bool true])/\Below W.heap.size W n))
 (A : Hid (∀ W, (invoke (.fn (.method "loop.example/s02176/impl.flat") #[]) #[.iface p s]).run prog W = .ok (.enter f args) W)) (y : Hid (∀ W, Calls prog f args W fun e n => e = .returned (.agg #[.int .i64 r, .string l, .string m, .int .i64 j]) /\ Below W.heap.size W n))
 (z:Hid ((r==k&&(l.toList==a.toList&&(m.toList==c.toList&&j==i)))=b)) (E:Hid (aq ⟨k,a,c,i⟩=(b&&(decide ((a.size:Int)<=255) &&decide ((c.size:Int)<=65535))))):
 Calls prog 20 #[.agg #[.int .i64 k,.string a,.string c,.int .i64 i]] w fun e n=>e=.returned (.bool (aq ⟨k,a,c,i⟩))/\Below w.heap.size w n:=by
 have o:b=false\/b=true/\decide ((a.size:Int)<=255)=false\/b=true/\decide ((a.size:Int)<=255)=true:=by cases b<;>cases decide ((a.size:Int)<=255)<;>simp
 rcases o with rfl|⟨rfl,q⟩|⟨rfl,q⟩
 all_goals
  try rw[q]at E
  go_enter func20,ntmps20;go_wp2_with fail;refine(B.out _).mono ?_;rintro e t ⟨rfl,g⟩;have u:Hid _:=nA (cA _ _) g;have d:=fun x:fB t=>(((eA.new w #[.int .i64 k,.string a,.string c,.int .i64 i] 31).later g).later x.h).c4;simp only[forall_and]at d;obtain⟨D,F,G,H⟩:=d;have C:=fB.there t;clear g;go_wp2_with fail;refine eB (by kernel_rfl) (by kernel_rfl) ?_;repeat (go_big_quiet_step (fail))
  refine WA (by rfl) (fun W=>TA _ _ _ _ rfl rfl (A.out W)) (by rintro _ ⟨x,rfl⟩;exact pB (y.out _)) ?_;simp only[Act.put,Pf,Nd,List.set_cons_zero];repeat (go_big_quiet_step (fail))
  first
   |(refine cw (by rfl) (XQ _ _ _ _ rfl rfl rfl z.out) ?_;simp only[Act.put,Pf,Nd,List.set_cons_zero];repeat (go_big_quiet_step (fail)))
   |skip
  refine wpQuiet_nil ?_;rintro _ ⟨x,rfl⟩;have v:=bA (nA u.out x.h);go_wp2;go_ret;exact⟨jA (by rw[E.out];simp),v.out⟩
theorem wk {r:lC} {b:Bool} (h:(r.kind=1/\r.num=0)\/(r.kind=2/\r.n9.size=0/\r.text.size=0)\/r.kind=3 ↔ b=true):aq r=(b&&(decide ((r.n9.size:Int)<=255) &&decide ((r.text.size:Int)<=65535))):=by
 by_cases a:mK r
 ·rw[QN a,h.1 a.2.2,Zb (by have:=a.1;omega),Zb (by have:=a.2.1;omega)];rfl
 ·rw[mY a];refine(Yc.2 fun e=>a ?_).symm;simp only[Sa,Eb]at e;exact⟨by omega,by omega,h.2 e.1⟩
theorem oa (r:lC) (w:World) (m:r.n9.size<=1000000000) (n:r.text.size<=1000000000):
 Calls prog 20 #[aBj r] w fun e o=>e=.returned (.bool (aq r))/\Below w.heap.size w o:=by
 obtain⟨f,c,d,b⟩:=r;by_cases j:f=1
 ·subst j;exact KO w m n (fun W=>aP ⟨1,c,d,b⟩ W) (fun W=>YP _ W) (fun W=>ne 1 c d W) rfl (wk (by simp;exact eq_comm))
 by_cases k:f=2
 ·subst k;exact KO w m n (fun W=>aP ⟨2,c,d,b⟩ W) (fun W=>YQ _ W) (fun W=>nf 2 b ByteArray.empty W) rfl (wk (by simp only[Sa,Eg,beq_self_eq_true,Rg,Yb];rw[eq_comm (a:=ByteArray.empty.toList),eq_comm (a:=ByteArray.empty.toList),sk,sk];simp))
 by_cases l:f=3
 ·subst l;exact KO w m n (fun W=>aP ⟨3,c,d,b⟩ W) (fun W=>YR _ W) (fun W=>my 3 b c d W) rfl (wk (by simp))
 have s:Hid (∀W,Calls prog 57 #[.agg #[.int .i64 f,.string c,.string d,.int .i64 b]] W fun e o=>e=.returned (.tuple #[.nilIface,.bool false])/\Below W.heap.size W o):=fun W=>by
  have:=aP ⟨f,c,d,b⟩ W;have t:KR ⟨f,c,d,b⟩=.nilIface:=by unfold KR;simp[j,k,l]
  have u:YZ ⟨f,c,d,b⟩=false:=by unfold YZ;simp[j,k,l]
  rw[t,u]at this;exact this
 have E:Hid (aq ⟨f,c,d,b⟩=false):=bA (mY (fun v=>by rcases v.2.2 with g|g|g;exact j g.1;exact k g.1;exact l g));unfold aBj;clear j k l;go_enter func20,ntmps20;go_wp2_with fail;refine(s.out _).mono ?_;rintro e z ⟨rfl,i⟩;have p:Hid _:=nA (cA _ _) i;have y:=fB.there z;clear i;go_wp2_with fail;refine eB (by kernel_rfl) (by kernel_rfl) ?_;repeat (go_big_quiet_step (fail))
 refine wpQuiet_nil ?_;rintro _ ⟨x,rfl⟩;have q:Hid _:=nA p.out x.h;go_wp2;go_ret;exact⟨jA E.out.symm,q.out⟩
def rg (a:List lC):Prop:=∀i (h:i<a.length),a[i].n9.size<=1000000000/\a[i].text.size<=1000000000
theorem YK (v:Int) (w:World):Calls prog 21 #[.int .i64 v] w fun e d=>e=.returned (.string (fA 1 v))/\Below w.heap.size w d:=by
 have c:=bA (eG 1 v w (by omega));generalize fA 1 v=N at *;go_enter func21,ntmps21;go_wp2_with fail;refine c.out.mono ?_;rintro e f ⟨rfl,a⟩;have b:=bA a;clear a;go_wp2;go_ret;exact⟨rfl,b.out⟩
theorem YJ (v:Int) (w:World):Calls prog 19 #[.int .i64 v] w fun e d=>e=.returned (.string (fA 2 v))/\Below w.heap.size w d:=by
 have c:=bA (eG 2 v w (by omega));generalize fA 2 v=N at *;go_enter func19,ntmps19;go_wp2_with fail;refine c.out.mono ?_;rintro e f ⟨rfl,a⟩;have b:=bA a;clear a;go_wp2;go_ret;exact⟨rfl,b.out⟩
theorem FO (v:Int) (w:World):Calls prog 18 #[.int .i64 v] w fun e d=>e=.returned (.string (fA 8 v))/\Below w.heap.size w d:=by
 have c:=bA (eG 8 v w (by omega));generalize fA 8 v=N at *;go_enter func18,ntmps18;go_wp2_with fail;refine c.out.mono ?_;rintro e f ⟨rfl,a⟩;have b:=bA a;clear a;go_wp2;go_ret;exact⟨rfl,b.out⟩
theorem nr:(prog.info? 9).map (fun i=>(i.zero,i.size,i.bytes))=some (some (.string ByteArray.empty),1,16):=by kernel_rfl
def eW (a:List lC):List ByteArray:=a.flatMap fun r=>[fA 1 r.kind,oK r.n9,nD r.text,fA 8 r.num]
theorem ak (a:List lC) (k:Nat) (h:k<a.length):eW (a.take (k+1))=eW (a.take k)++[fA 1 a[k].kind,oK a[k].n9,nD a[k].text,fA 8 a[k].num]:=by
 unfold eW;rw[Ma h,Zf];rfl
theorem JO:∀(a:List lC),gE (eW a)=qF a
 |[]=>rfl
 |r::q=>by
  have e:eW (r::q)=[fA 1 r.kind,oK r.n9,nD r.text,fA 8 r.num]++eW q:=rfl;rw[e,pF,JO q,qF];simp[gE,GV,Gb]
theorem FK (d:Int) (a:Option Addr) (t:Nat) (c:List lC) (w:World) (hf:gF w a c) (hB:rg c) (hlen:c.length<=2000000):
 Calls prog 5 #[.agg #[.int .i64 d,.slice a c.length t]] w fun e f=>e=.returned (.string (zG d c))/\Below w.heap.size w f:=by
 have z:(d<1\/¬d<1/\d > 1000000000000000\/(¬d<1/\¬d > 1000000000000000)/\(c.length:Int)<1\/(¬d<1/\¬d > 1000000000000000)/\¬(c.length:Int)<1/\(c.length:Int) > 500)\/(¬d<1/\¬d > 1000000000000000)/\¬(c.length:Int)<1/\¬(c.length:Int) > 500:=by omega
 rcases z with z|⟨⟨Z,c2⟩,c3,c4⟩
 ·have E:=bA (sW (lsn:=d) (rs:=c) fun h=>by obtain⟨h1,h2,h3,h4,-⟩:=h;omega);rw[E.out];clear hf hB;rcases z with Z|⟨Z,c2⟩|⟨⟨Z,c2⟩,c3⟩|⟨⟨Z,c2⟩,c3,c4⟩
  all_goals
   go_enter func5,ntmps5;go_wp2;go_ret;exact⟨rfl,cA _ _⟩
 have HF:Hid (gF w a c):=hf;have HB:Hid (rg c):=hB;have O:Hid _:=fun W=>FO d W;have N:Hid _:=fun W=>YJ (c.length:Nat) W;have hz8:=iA 8 d;have hz2:=iA 2 (c.length:Nat);have HKB:Hid (zQ d c->zG d c=fA 8 d++fA 2 (c.length:Nat)++qF c):=fun h=>AG h;have HOK:Hid (dg c->zQ d c):=fun h=>⟨by omega,by omega,by omega,by omega,h⟩
 generalize fA 8 d=N8 at *;generalize fA 2 (c.length:Nat)=N2 at *;clear hf hB;go_enter func5,ntmps5;go_upto_region 3 with fail;have X6:Hid (eA (w.alloc (.cells #[.int .i64 d,.slice a c.length t] 25)) w.heap.size #[.int .i64 d,.slice a c.length t] 25):=eA.new _ _ _;have B0:Hid (Below w.heap.size w (w.alloc (.cells #[.int .i64 d,.slice a c.length t] 25))):=cA _ _;generalize w.alloc (.cells #[.int .i64 d,.slice a c.length t] 25)=J at *;have D:Hid (∀f,Below J.heap.size J f->f.cell? ⟨w.heap.size,0,none⟩=some (.int .i64 d)/\f.cell? ⟨w.heap.size,1,none⟩=some (.slice a c.length t)):=fun f h=>by
  have q:=X6.out.later h;exact⟨q.cell 0,q.cell 1⟩
 obtain⟨x0,x1⟩:=D.out J (Below.refl _ _);go_cut [3] (fun s wx=>∃g,s=.slice (some ⟨g,0,none⟩) 2 2/\J.heap.size<=g/\wx.heap[g]?=some (.cells #[.string N8,.string N2] 9 (0,0))/\Below J.heap.size J wx)
 case first=>
  go_region_held3 (fun f=>f.cell? ⟨w.heap.size,0,none⟩=some (.int .i64 d)/\f.cell? ⟨w.heap.size,1,none⟩=some (.slice a c.length t))
   (first|go_keep|exact D.out _ k4|exact D.out _ k3)
   (first
    |(go_at_call 18;refine(O.out _).mono ?_;rintro e w3 ⟨rfl,U⟩;have k3:Below J.heap.size J w3:=(by exact nA (Below.refl _ _).drew U))
    |(go_at_call 19;refine(N.out _).mono ?_;rintro e w4 ⟨rfl,V⟩;have k4:Below J.heap.size J w4:=(by exact nA k3 V)))
  all_goals(go_wp2_with fail;go_meet)
  all_goals exact⟨_,rfl,k4.size,heap_alloc_new _ _,nA k4 (cA _ _)⟩
 obtain⟨g0,rfl,hg0,C,Y⟩:=hcut;rename World=>w5;have B5:Hid _:=nA B0.out Y;have HBL:Hid (w5.heap[g0]?=some (.cells #[.string N8,.string N2] 9 (0,0))/\w.heap.size<=g0):=⟨C,Ra B0.out.size hg0⟩
 have HK5:Hid _:=fun f h=>D.out f (nA Y h);obtain⟨y0,y1⟩:=HK5.out w5 (Below.refl _ _);clear x0 x1 D X6 C hg0 Y B0 O N HK5;go_wp2;go_loopw [3,5,37] (fun out _ i wr=>∃(k:Nat) (l:List ByteArray) (g cv:Nat),k<=c.length/\i=.int .i64 k/\out=.slice (some ⟨g,0,none⟩) l.length cv/\l.length<=2+4*k/\wE l<=10+k*3000000000/\Hid (l=N8::N2::eW (c.take k))/\Hid (∀j (h:j<c.length),j<k->mK c[j])/\Hid (wr.ownsRow w.heap.size 9 1 (.slice (some ⟨g,0,none⟩) l.length cv) l.length (l.map Value.string))/\Below w.heap.size w wr) (fun _ _ i _=>c.length-(intOf i).toNat)
 case atStart=>
  exact⟨0,[N8,N2],_,_,La _,rfl,rfl,by simp,by simp[wE];omega,rfl,fun j _ h=>absurd h (by omega),⟨rfl,Ja ⟨g0,2,_,rfl,HBL.out.2,HBL.out.1,Ka _,by simp[maxLen],rfl,rfl⟩⟩,B5.out⟩
 case round=>
  obtain⟨k,l,g,cv,hk,rfl,rfl,hpl,hps,HPS,x,n,p⟩:=hrel;by_cases M:k<c.length
  ·obtain⟨b,o,rfl,hb,c0,Z,c2,c3⟩:=(HF.out.later p).at M;obtain⟨hn1,hn2⟩:=HB.out k M;have y:Hid (∀W,Calls prog 20 #[.agg #[.int .i64 c[k].kind,.string c[k].n9,.string c[k].text,.int .i64 c[k].num]] W fun e f=>e=.returned (.bool (aq c[k]))/\Below W.heap.size W f):=fun W=>oa c[k] W hn1 hn2;by_cases A:mK c[k]
   ·rw[QN A]at y;have HK1:Hid (∀W,Calls prog 21 #[.int .i64 c[k].kind] W fun e f=>e=.returned (.string (fA 1 c[k].kind))/\Below W.heap.size W f):=fun W=>YK _ W;have HS8:Hid _:=fun W=>uT c[k].n9 W hn1;have HS16:Hid _:=fun W=>xN c[k].text W hn2;have HN8:Hid (∀W,Calls prog 18 #[.int .i64 c[k].num] W fun e f=>e=.returned (.string (fA 8 c[k].num))/\Below W.heap.size W f):=fun W=>FO _ W;have hq1:=iA 1 c[k].kind;have hq2:=mE c[k].n9;have hq3:=oD c[k].text;have hq4:=iA 8 c[k].num;have HA2:Hid (∀j (h:j<c.length),j<k+1->mK c[j]):=fun j h hj=>by
     rcases Rc j k with h1|h1
     ·exact x.out j h h1
     ·obtain rfl:j=k:=by omega
      exact A
    have HT:=ak c k M;have E2:Hid (l++[fA 1 c[k].kind,oK c[k].n9,nD c[k].text,fA 8 c[k].num]=N8::N2::eW (c.take (k+1))):=by show _=_;rw[HT,HPS.out];rfl
    clear HT A x;generalize fA 1 c[k].kind=F at *;generalize oK c[k].n9=G at *;generalize nD c[k].text=H at *;generalize fA 8 c[k].num=I at *;generalize c[k].kind=ki at *;generalize c[k].n9=te at *;generalize c[k].text=tx at *;generalize c[k].num=nu at *;have S:=bA (eA.new wr #[.int .i64 ki,.string te,.string tx,.int .i64 nu] 31);have hgB:=(lH n.out).2.1;have HBW:=bA (cA wr (.cells #[.int .i64 ki,.string te,.string tx,.int .i64 nu] 31));go_wp2_with fail;refine(y.out _).mono ?_;rintro e W ⟨rfl,u⟩;have D:=bA (fun f (h:Below W.heap.size W f)=>(S.out.later u).later h);have X:=nA HBW.out u;have T:=bA (show W.ownsRow w.heap.size 9 1 (.slice (some ⟨g,0,none⟩) l.length cv) l.length (l.map Value.string)/\Below w.heap.size w W from⟨vA n.out X,nA p X⟩);have hBX:=aA (S.out.later u);have hww:=T.out.2.size;clear n S hb c0 Z c2 c3 p u y X HBW;go_wp2_with fail;generalize wr.heap.size=K at *;clear wr;have r:Hid (∀f,Below W.heap.size W f->f.cell? ⟨K,0,none⟩=some (.int .i64 ki)/\f.cell? ⟨K,1,none⟩=some (.string te)/\f.cell? ⟨K,2,none⟩=some (.string tx)/\f.cell? ⟨K,3,none⟩=some (.int .i64 nu)):=fun f h=>⟨(D.out f h).cell 0,(D.out f h).cell 1,(D.out f h).cell 2,(D.out f h).cell 3⟩
    obtain⟨x0,x1,x2,x3⟩:=r.out W (Below.refl _ _);go_region_held3 (fun f=>f.cell? ⟨K,0,none⟩=some (.int .i64 ki)/\f.cell? ⟨K,1,none⟩=some (.string te)/\f.cell? ⟨K,2,none⟩=some (.string tx)/\f.cell? ⟨K,3,none⟩=some (.int .i64 nu))
     (first|go_keep|exact R|exact r.out _ (m.alloc m.size _)|exact r.out _ m|exact r.out _ hc3|exact r.out _ hc2|exact r.out _ hc1)
     ((first
       |(go_at_call 21;refine(HK1.out _).mono ?_;rintro e w1 ⟨rfl,hb1⟩;have hc1:Below W.heap.size W w1:=(Below.refl _ W).drew.trans hb1)
       |(go_at_call 22;refine(HS8.out _).mono ?_;rintro e w2 ⟨rfl,L⟩;have hc2:=nA hc1 L)
       |(go_at_call 23;refine(HS16.out _).mono ?_;rintro e w3 ⟨rfl,U⟩;have hc3:=nA hc2 U)
       |(go_at_call 18;refine(HN8.out _).mono ?_;rintro e w4 ⟨rfl,V⟩;have m:=nA hc3 V)
       |(refine kP (by rfl) _ _ (by rfl) underlying39 nr rfl (by omega) (by omega) (B:=w.heap.size) (by rfl) (by exact vA (vA T.out.1 m) (cA _ _)) [.string F,.string G,.string H,.string I] (by rfl) rfl (by exact Ja ⟨_,rfl,World.news_of_block (cs:=#[.string F,.string G,.string H,.string I]) (heap_alloc_new _ _)⟩) (by simp[Value.oneCell']) (by omega) (by have:=m.size;simp;omega) ?_;intro g5 P w5 v hB5 hk5 _;have R:=(OO (hk5 K (by have:=m.size;simp;omega) (by omega)) (r.out _ (m.alloc m.size (.cells #[.string F,.string G,.string H,.string I] 9)))))))
    have hle:(l++[F,G,H,I]).length=l.length+4:=by simp
    have hsm:wE (l++[F,G,H,I])=wE l+(F.size+(G.size+(H.size+I.size))):=by rw[mG];simp[wE]
    rw[<-hle]at v |-
    have HO5:=bA (show w5.ownsRow w.heap.size 9 1 (.slice (some ⟨g5,0,none⟩) (l++[F,G,H,I]).length P) (l++[F,G,H,I]).length ((l++[F,G,H,I]).map Value.string)/\Below w.heap.size w w5 from⟨by rw[Vd];exact v,((nA T.out.2 m).alloc (Ra hww m.size) _).trans hB5⟩);clear v hB5 hk5 R;generalize l++[F,G,H,I]=ps5 at *;go_wp2;exact⟨⟨k+1,ps5,g5,P,by omega,by go_num,rfl,by omega,by omega,E2.out,HA2.out,HO5.out.1,HO5.out.2⟩,by simp[intOf];omega⟩
   ·have E:Hid _:=iu M A d;rw[mY A]at y;generalize c[k].kind=ki at *;generalize c[k].n9=te at *;generalize c[k].text=tx at *;generalize c[k].num=nu at *;clear A x n;go_wp2_with fail;refine(y.out _).mono ?_;rintro e W ⟨rfl,u⟩;have BW:Hid _:=nA (nA p (cA _ _)) u;clear u y;go_wp2;go_ret;exact⟨by rw[E.out];rfl,BW.out⟩
  ·have Q:dg c:=fun j h=>x.out j h (by omega);have E2:Hid (gE l=zG d c):=by
    show _=_;rw[HPS.out,Ua (by omega),gE,gE,JO,HKB.out (HOK.out Q),Gb]
   obtain⟨hcv,hg,z⟩:=lH n.out;have HJ:Hid (Calls prog 24 #[.slice (some ⟨g,0,none⟩) l.length cv] wr fun e f=>e=.returned (.string (gE l))/\Below wr.heap.size wr f):=eK g l.length cv l wr rfl z hg hcv (by omega) (by omega);rw[E2.out]at HJ;clear n z Q;go_wp2_with fail;refine HJ.out.mono ?_;rintro e w2 ⟨rfl,L⟩;have B2:Hid _:=nA p L;clear L;go_wp2;go_ret;exact⟨rfl,B2.out⟩
theorem sy {x b a:Int} (h:xA x b a=true):b<=x/\x<=a:=by simpa[xA]using h
structure NP (w W:World) (c:vB) (cs:Array Value):Prop where
 C:eA W w.heap.size #[.int .i64 c.w,.int .i64 c.tl,.int .i64 c.ml,.int .i64 c.sh,.int .i64 c.ha,.int .i64 c.sg] 33
 N:eA W (w.heap.size+1) cs 82
 R:eA W (w.heap.size+1+1) (iB none 0 none 0 lJ) 82
 B:Below w.heap.size w W
section
variable {w W W':World} {c:vB} {cs cs':Array Value}
theorem NP.new:NP w (((w.alloc (.cells #[.int .i64 c.w,.int .i64 c.tl,.int .i64 c.ml,.int .i64 c.sh,.int .i64 c.ha,.int .i64 c.sg] 33)).alloc (.cells cs 82)).alloc (.cells (iB none 0 none 0 lJ) 82)) c cs:=
 ⟨((eA.new _ _ _).alloc _).alloc _,by have:=(eA.new (w.alloc (.cells #[.int .i64 c.w,.int .i64 c.tl,.int .i64 c.ml,.int .i64 c.sh,.int .i64 c.ha,.int .i64 c.sg] 33)) cs 82).alloc (.cells (iB none 0 none 0 lJ) 82);simpa using this,
   by have:=eA.new ((w.alloc (.cells #[.int .i64 c.w,.int .i64 c.tl,.int .i64 c.ml,.int .i64 c.sh,.int .i64 c.ha,.int .i64 c.sg] 33)).alloc (.cells cs 82)) (iB none 0 none 0 lJ) 82;simpa using this,nA (nA (cA _ _) (cA _ _)) (cA _ _)⟩
theorem NP.later (h:NP w W c cs) (a:Below W.heap.size W W'):NP w W' c cs:=⟨h.C.later a,h.N.later a,h.R.later a,nA h.B a⟩
theorem NP.put (h:NP w W c cs) (b:eA W' (w.heap.size+1) cs' 82) (a:gA (·=w.heap.size+1) W W'):NP w W' c cs':=
 ⟨a.blk h.C (by omega),b,a.blk h.R (by omega),h.B.trans (a.below h.B.size fun k d e=>by omega)⟩
theorem NP.lt (h:NP w W c cs):w.heap.size+1+1<W.heap.size:=aA h.R
theorem NP.cells (h:NP w W c cs) (a:cs.size=14):W.cell? ⟨w.heap.size,0,none⟩=some (.int .i64 c.w)/\W.cell? ⟨w.heap.size,1,none⟩=some (.int .i64 c.tl)/\W.cell? ⟨w.heap.size,2,none⟩=some (.int .i64 c.ml)/\W.cell? ⟨w.heap.size,3,none⟩=some (.int .i64 c.sh)/\W.cell? ⟨w.heap.size,4,none⟩=some (.int .i64 c.ha)/\W.cell? ⟨w.heap.size,5,none⟩=some (.int .i64 c.sg)/\eA W (w.heap.size+1) cs 82/\dM W (w.heap.size+1)/\dM W (w.heap.size+1+1)/\w.heap.size<W.heap.size/\w.heap.size+1<W.heap.size/\w.heap.size+1+1<W.heap.size/\¬w.heap.size=W.heap.size/\¬w.heap.size+1=W.heap.size/\¬w.heap.size+1+1=W.heap.size:=
 have:=h.lt
 ⟨h.C.cell 0,h.C.cell 1,h.C.cell 2,h.C.cell 3,h.C.cell 4,h.C.cell 5,h.N,h.N.box a,h.R.box rfl,by omega,by omega,this,by omega,by omega,by omega⟩
end
theorem sn {a:List lC} (h:pC a<=1048576):rg a:=fun i b=>by
 have d:=BR a i b;have e:=IC a (i+1);omega
theorem nq:(prog.info? 82).map (·.size)=some 14:=by kernel_rfl
section
variable {s:ByteArray} {p p0:Option Nat} {q:Nat}
def zL (l:mA):Nat:=l.name.size+l.value.size+3
theorem ZB (h:(ZA s p).2=some q):∃a,p=some a/\a+zL (ZA s p).1=q/\q<=s.size:=by
 obtain⟨b,d,e⟩:=PT h;obtain⟨a,c,f⟩:=PT d;refine⟨a,c,?_,BJ h⟩;show a+((iG s 1 p).1.size+(iG s 2 (iG s 1 p).2).1.size+3)=q;omega
theorem oe (p:Option Nat):zL (ZA s p).1<=2*s.size+3:=by
 have a:=eU s 1 p;have b:=eU s 2 (iG s 1 p).2;show(iG s 1 p).1.size+(iG s 2 (iG s 1 p).2).1.size+3<=_;omega
theorem ZC (a:List mA) (x:mA):(cC (a++[x])).size=(cC a).size+zL x:=by
 rw[tI,tI,iL];simp[wB,zL];omega
theorem UF (k:Nat):∀q,(AD s p0 k).2=some q->∃a,p0=some a/\a+(cC (AD s p0 k).1).size=q/\((∀b,p0=some b->b<=s.size)->q<=s.size):=ff (z:=zL) (sz:=fun l=>(cC l).size) rfl ZC (fun _ _=>ZB) k
theorem vj (a:∀b,p0=some b->b<=s.size) (k:Nat):(cC (AD s p0 k).1).size<=3*s.size+3:=Ra (jn (z:=zL) (sz:=fun l=>(cC l).size) rfl ZC (fun _ _=>ZB) (fun p=>oe p) a k) (by omega)
theorem jj (x:jD):(tP x).size=9+(cC x.labs).size:=by rw[mM,tI];omega
theorem jo (h:(lSm s p).2=some q):∃a,p=some a/\a+(tP (lSm s p).1).size=q/\q<=s.size:=by
 obtain⟨c,f,g⟩:=ZD h;obtain⟨b,e,i,_⟩:=UF _ _ f;obtain⟨a,d,j⟩:=ZD e;refine⟨a,d,?_,dU h⟩;rw[jj];show a+(9+(cC (fh s p).1).size)=q;rw[fh];omega
theorem vm (p:Option Nat):(tP (lSm s p).1).size<=3*s.size+12:=by
 have:=vj (s:=s) (p0:=(GY s p).2) (fun b a=>dU a) (GY s p).1;rw[jj];show 9+(cC (AD s (GY s p).2 (GY s p).1).1).size<=_;omega
theorem ZE (a:List jD) (x:jD):(cD (a++[x])).size=(cD a).size+(tP x).size:=by rw[fL,Ga];simp[cD]
theorem aAk (k:Nat):∀q,(NH s p0 k).2=some q->∃a,p0=some a/\a+(cD (NH s p0 k).1).size=q/\((∀b,p0=some b->b<=s.size)->q<=s.size):=ff (z:=fun x=>(tP x).size) (sz:=fun l=>(cD l).size) rfl ZE (fun _ _=>jo) k
theorem vn (a:∀b,p0=some b->b<=s.size) (k:Nat):(cD (NH s p0 k).1).size<=4*s.size+12:=Ra (jn (z:=fun x=>(tP x).size) (sz:=fun l=>(cD l).size) rfl ZE (fun _ _=>jo) (fun p=>vm p) a k) (by omega)
theorem iZ:∀a:List jD,a.length+eC a<=(cD a).size
 |[]=>Ka _
 |x::r=>by
  have h:=iZ r;have e:=mM x;show r.length+1+(x.labs.length+wB x.labs+eC r)<=(tP x++cD r).size;rw[Ga];omega
theorem vk (s:ByteArray):yF (qx s)<=6*s.size+12:=by
 have c:(BK s).1.size<=s.size:=by rw[BK];split;exact eU ..;exact La _
 have d:(wX s).1.size<=s.size:=by rw[wX];split;exact eU ..;exact La _
 have e:(UK s).1.length+eC (UK s).1<=4*s.size+12:=by
  rw[UK];split
  ·exact Ra (iZ _) (vn (fun b a=>dU a) _)
  ·exact La _
 show(BK s).1.size+(wX s).1.size+(UK s).1.length+eC (UK s).1<=_;omega
end
