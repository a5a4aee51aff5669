import Derived.Test.YtabgbmfcbobamaaGreatDoorJ27
set_option maxRecDepth 100000
set_option maxHeartbeats 16000000
namespace Go.Proofs.YtabgbmfcbobamaaGreatDoor
open Go.RowKit Tryz
theorem WC {y:Array Oper} {b:List Oper} {o:Oper} {a:Act} {Q:Exit->Act->World->Prop} {w:World} (l:o.guard=none) (s x:Operand) (E:o.op=.call { callee:=.builtin .append,args:=#[s,x],argTypes:=#[98,98] }) {B k n j:Nat} {u:List Value} (G:a.eval s=.slice (some ⟨k,0,none⟩) n j) (F:w.ownsRow B 109 2 (.slice (some ⟨k,0,none⟩) n j) n u)
 {i:Option Addr} {m v:Nat} (f:List lA) (H:a.eval x=.slice i m v) (D:f.length=m) (d:iS w i m (flatK f)) (J:n+m<=4000000) (C:B<=w.heap.size)
 (h:∀g cap e,Hid (e.ownsRow B 109 2 (.slice (some ⟨g,0,none⟩) (n+m) cap) (n+m) (u++flatK f))->Hid (Below B w e)->wpList prog y Q b (a.put o.dst (.slice (some ⟨g,0,none⟩) (n+m) cap)) e):wpList prog y Q (o::b) a w:=by
 obtain⟨I,p,q,r,t⟩:=info_parts BD;exact AA _ l s x _ E B 109 I _ 2 24 underlying98 p q r t rfl (by omega) k n j u G F i m v (flatK f) H (by rw[wO,D]) d (oT _) (by simp[maxLen];omega) (by omega) C fun g cap e z A _ _ _ _=>h g cap e z A
theorem yt {l:Array Oper} {b:List Oper} {o:Oper} {a:Act} {Q:Exit->Act->World->Prop} {w:World} (i:o.guard=none) (s x:Operand) (t:o.op=.call { callee:=.builtin .append,args:=#[s,x],argTypes:=#[98,98] }) (u:a.eval s=.slice (some ⟨w.heap.size,0,none⟩) 0 0) {j:Option Addr} {m p:Nat} (f:List lA) (v:a.eval x=.slice j m p) (r:f.length=m) (d:iS (w.alloc (.cells #[] 109)) j m (flatK f)) (y:m<=4000000)
 (h:∀g cap e,Hid (e.ownsRow w.heap.size 109 2 (.slice (some ⟨g,0,none⟩) m cap) m (flatK f))->Hid (Below w.heap.size w e)->wpList prog l Q b (a.put o.dst (.slice (some ⟨g,0,none⟩) m cap)) e):wpList prog l Q (o::b) a (w.alloc (.cells #[] 109)):=by
 refine WC i s x t (B:=w.heap.size) u (World.ownsRow_made w #[] 0 (Ka _) (by simp[maxLen]) (by simp)) f v r d (by omega) (cA _ _).size fun g cap e k q=>?_;rw[Wa]at k |-
 exact h g cap e k ((cA _ _).trans q.out)
structure AB (wv W:World) (X M:Nat) (q1:Option Addr) (e1:Nat) (q2:Option Addr) (e2:Nat) (tn:dA):Prop where
 X:eA W X #[.string tn.name,.int .i64 tn.l9,.slice q1 tn.m9.length e1,.slice q2 tn.s9.length e2] 100
 P:dC W wv.heap.size q1 tn.m9
 R:W.ownsRow M 109 2 (.slice q2 tn.s9.length e2) tn.s9.length (flatK tn.s9)
section
variable {w wv W W':World} {X M e1 e2 n cap:Nat} {q1 q2 a:Option Addr} {tn:dA} {c:vB} {now:Int} {key:ByteArray}
theorem AB.later (h:AB wv W X M q1 e1 q2 e2 tn) (b:Below W.heap.size W W'):AB wv W' X M q1 e1 q2 e2 tn:=⟨h.X.later b,h.P.later b,vA h.R b⟩
theorem zh {g k:Nat} (A:AB wv W X M q1 e1 (some ⟨g,0,none⟩) e2 tn) (P:qX w W c now a n cap) (v:∀g o,q1=some ⟨g,o,none⟩->g<M) (u:g≠X) (y:w.heap.size+1+1<M) (b:k<tn.s9.length) (d:tn.s9[k].s=key) (i:jC (·.s) tn.s9):
 eA (W.setCell ⟨g,k*2+1,none⟩ (.int .i64 now)) X #[.string tn.name,.int .i64 tn.l9,.slice q1 tn.m9.length e1,.slice (some ⟨g,0,none⟩) tn.s9.length e2] 100/\yA (W.setCell ⟨g,k*2+1,none⟩ (.int .i64 now)) q1 tn.m9/\yA (W.setCell ⟨g,k*2+1,none⟩ (.int .i64 now)) (some ⟨g,0,none⟩) (bB (·.s) ⟨key,now⟩ tn.s9)/\qX w (W.setCell ⟨g,k*2+1,none⟩ (.int .i64 now)) c now a n cap/\(bB (·.s) (⟨key,now⟩:lA) tn.s9).length=tn.s9.length/\W.frozen? ⟨g,k*2+1,none⟩=false:=by
 have t:=(A.R.lt g rfl).1;have m:bB (·.s) ⟨key,now⟩ tn.s9=tn.s9.set k ⟨tn.s9[k].s,now⟩:=by rw[ux i b d,d]
 have p:(bB (·.s) (⟨key,now⟩:lA) tn.s9).length=tn.s9.length:=by rw[m,Xb]
 have f:gA (·=g) W (W.setCell ⟨g,k*2+1,none⟩ (.int .i64 now)):=(gA.refl (·=g) W).setCell (Ca rfl) _ _;refine⟨f.blk A.X u.symm,aa A.P f (fun l o e _ x=>by have:=v l o e;omega),?_,P.turn f (by omega),p,?_⟩
 ·have h:(W.setCell ⟨g,k*2+1,none⟩ (.int .i64 now)).ownsRow M 109 2 (.slice (some ⟨g,0,none⟩) tn.s9.length e2) tn.s9.length (flatK (bB (·.s) ⟨key,now⟩ tn.s9)):=by
   rw[m,mx _ _ b];exact xe A.R
  rw[<-p]at h;exact(vC h).pairs
 ·rcases A.R.2 with⟨e,_⟩|⟨l,j,r,e,_,q,_⟩
  ·cases e
  ·simp only[Value.slice.injEq,Pa,Addr.mk.injEq,Yb]at e;rw[<-e.1]at q;exact eA.free q _
theorem ir {d:World} {g m b:Nat} {l:List Value} {ss:List lA} (A:AB wv d X M q1 e1 q2 e2 tn) (P:qX w d c now a n cap) (j:∀g o,q1=some ⟨g,o,none⟩->tn.m9≠[]->g≠X) (s:w.heap.size+1+1<X) (h:Below d.heap.size d W) (k:W.ownsRow d.heap.size 109 2 (.slice (some ⟨g,0,none⟩) m b) m l) (v:flatK ss=l) (t:ss.length=m):
 eA (W.setCell ⟨X,3,none⟩ (.slice (some ⟨g,0,none⟩) m b)) X #[.string tn.name,.int .i64 tn.l9,.slice q1 tn.m9.length e1,.slice (some ⟨g,0,none⟩) m b] 100/\yA (W.setCell ⟨X,3,none⟩ (.slice (some ⟨g,0,none⟩) m b)) q1 tn.m9/\yA (W.setCell ⟨X,3,none⟩ (.slice (some ⟨g,0,none⟩) m b)) (some ⟨g,0,none⟩) ss/\qX w (W.setCell ⟨X,3,none⟩ (.slice (some ⟨g,0,none⟩) m b)) c now a n cap:=by
 subst v t;have f:gA (·=X) W (W.setCell ⟨X,3,none⟩ (.slice (some ⟨g,0,none⟩) ss.length b)):=(gA.refl (·=X) W).setCell (Ca rfl) 3 _;have x:=aA A.X;exact⟨by have:=(A.X.later h).set 3 (.slice (some ⟨g,0,none⟩) ss.length b);simpa using this,aa (A.P.later h) f (fun r o e i p=>j r o e i p),(vC (f.row k (fun q u e=>by have:=(k.lt q u).1;omega))).pairs,(P.later h).turn f s⟩
end
theorem NL (c:vB) (now:Int) (a:Option Addr) (cap:Nat) (j:List dA) (h key:ByteArray) (w:World) (y:oB w a j) (k:j.length+uA j<=1100000) (Y:h.size<=1100000) (V:key.size<=1100000) (t:gB c now j=true) (i:(yB h&&eI key)=false):
 Calls prog 118 #[iD c,.agg #[.int .i64 now,.slice a j.length cap],.string h,.string key] w fun e N=>OC (now,j,5) w e N:=by
 obtain⟨d,b,f,g⟩:=xR k;have r:=bA (fun W (u:Below w.heap.size w W)=>eE c now a cap j W (y.later u) b (by omega));have p:=bA (fun W=>bE h W (by unfold maxLen;omega));have l:=bA (fun W=>DU key W (by omega));have o:=bA (fun W (u:Below w.heap.size w W)=>xP c now a cap j W (y.later u) t k);rw[t]at r;have x:yB h=false\/yB h=true/\eI key=false:=by revert i;cases yB h<;>simp
 have P:=bA (qX.new (w:=w) (c:=c) (now:=now) (a:=a) (n:=j.length) (cap:=cap));clear y k d b f g t i;unfold OC;unfold iD at *;rcases x with J|⟨J,Q⟩
 all_goals
  rw[J]at p;try rw[Q]at l
  go_enter func118,ntmps118;go_wp2_with(first
   |(go_at_call 78;refine(r.out _ P.out.B).mono ?_;rintro e wv ⟨rfl,i⟩;replace P:=bA (P.out.later i);clear i r;obtain⟨z,A,C,D,E,F,G,H,-,-,-,-,q⟩:=P.out.cells)
   |(go_at_call 81;refine(p.out _).mono ?_;rintro e N ⟨rfl,hw⟩;subst hw)
   |(go_at_call 121;refine(l.out _).mono ?_;rintro e Z ⟨rfl,i⟩;replace P:=bA (P.out.later i);clear i z A C D E F G H q;obtain⟨z,A,C,D,E,F,G,H,-,-,-,-,q⟩:=P.out.cells)
   |(go_at_call 117;refine(o.out _ P.out.B).mono ?_;rintro e w9 ⟨K,L,rfl,I,i⟩;have s:=bA (P.out.later i);have m:=bA I;clear I i z A C D E F G H o;obtain⟨-,-,-,-,-,-,-,-,R,S,T,U,O⟩:=s.out.cells))
  refine bodyPost_ret (v:=?_) (by simp[results,results118,go_sem,R,S];rfl) rfl ?_;first
   |exact⟨K,⟨L,rfl⟩,s.out.done m.out q⟩
   |exact⟨K,L,rfl,s.out.done m.out q⟩
theorem VG {c:vB} {now:Int} {a:Option Addr} {cap:Nat} {f:List dA} {L key:ByteArray} {w:World} {tn:dA} {V:Int×List dA×Nat} (H:Hid (SC w c now a cap f L tn)) (hk:key.size<=1100000) (hky:eI key=true) (HFK:Hid (∀p∈tn.s9,p.s.size<=1100000)) (HKA:Hid (uC c.w now (bB (·.name) ⟨tn.name,tn.l9,tn.m9,bB (·.s) ⟨key,now⟩ tn.s9⟩ f)=bB (·.name) (kI tn key now) f))
 (HFI:Hid (RM ⟨tn.name,tn.l9,tn.m9,bB (·.s) ⟨key,now⟩ tn.s9⟩))
 (HV:Hid (V=if (xC (·.s) key tn.s9).isSome=true then(now,bB (·.name) (kI tn key now) f,1) else if (qD c tn ⟨#[]⟩).2<=(qD c tn ⟨#[]⟩).1\/(iE tn=true/\f.length=10000) then(now,f,3) else if (qD c tn (vD key)).2<=(qD c tn (vD key)).1 then(now,f,4) else(now,bB (·.name) (kI tn key now) f,2))):
 Calls prog 118 #[iD c,.agg #[.int .i64 now,.slice a f.length cap],.string L,.string key] w fun e w'=>OC V w e w':=by
 obtain⟨hml,hsl⟩:=H.out.len;obtain⟨hn0,hn1⟩:=H.out.now0;have HKY:=bA (fun W=>DU key W (by omega));have HMT:Hid (∀W,Calls prog 144 #[.string key] W fun e w'=>e=.returned (.string (vD key))/\Below W.heap.size W w'):=fun W=>nW key W (by omega);have HCT:=bA (fun W m a1 a2 c1 c2 (p1:yA W a1 tn.m9) (p2:yA W a2 tn.s9)=>FR c tn a1 a2 c1 c2 m W p1 p2 (fun i h=>by have:=HFK.out _ (Xa h);omega) (by omega) (by omega));have HID:=bA (fun W a1 a2 c1 c2=>pZ tn a1 a2 c1 c2 W);have P:=bA (qX.new (w:=w) (c:=c) (now:=now) (a:=a) (n:=f.length) (cap:=cap));rw[hky]at HKY;unfold OC;unfold iD at *;go_enter func118,ntmps118;go_upto_region 5 with(first
  |(go_at_call 78;refine(H.out.ok _ P.out.B).mono ?_;rintro e wo ⟨rfl,o⟩;replace P:=bA (P.out.later o);clear o)
  |(go_at_call 81;refine(H.out.nm _).mono ?_;rintro e w' ⟨rfl,hw⟩;subst hw)
  |(go_at_call 121;refine(HKY.out _).mono ?_;rintro e wv ⟨rfl,o⟩;replace P:=bA (P.out.later o);clear o))
 have N:=bA P.out.kin;obtain⟨vy0,vy1,vx0⟩:=P.out.kin wv (Below.refl _ _);have hsv:=P.out.lt;clear HKY;go_cut [10] (fun p wx=>∃X,p=.pointer (some ⟨X,0,none⟩)/\KXR wv X tn wx)
 case first=>
  go_region_held3 (fun w'=>w'.cell? ⟨w.heap.size+1,0,none⟩=some (.int .i64 now)/\w'.cell? ⟨w.heap.size+1,1,none⟩=some (.slice a f.length cap)/\w'.cell? ⟨w.heap.size,0,none⟩=some (.int .i64 c.w))
   (first|go_keep|with_reducible exact N.out _ (VD k4 (Ka _))|with_reducible exact N.out _ (VD k4 k3.size)|with_reducible exact N.out _ k4|with_reducible exact N.out _ k3|with_reducible exact N.out _ (nA k3 (cA _ _))|with_reducible exact N.out _ ((cA _ _).drew)|with_reducible exact N.out _ (nA k4 (cA _ _)))
   (first
    |(go_at_call 89;refine(H.out.te _ (by with_reducible exact P.out.B.drew)).mono ?_;rintro e w3 ⟨⟨a1,c1,a2,c2,rfl,p1,p2⟩,F⟩;have k3:Below wv.heap.size wv w3:=(by with_reducible exact nA (Below.refl _ _).drew F);have c3:=N.out _ k3)
    |(go_at_call 89;refine(H.out.te _ (by with_reducible exact(nA P.out.B (cA _ _)).drew)).mono ?_;rintro e w3 ⟨⟨a1,c1,a2,c2,rfl,p1,p2⟩,F⟩;have k3:Below wv.heap.size wv w3:=(by with_reducible exact nA ((cA _ _).drew) F);have c3:=N.out _ k3;have hX3:eA w3 wv.heap.size #[.string ⟨#[]⟩,.int .i64 0,.slice none 0 0,.slice none 0 0] 100:=OL F)
    |(have q:=hX3;clear q;go_at_call 128;refine(H.out.kp _ a1 a2 c1 c2 (by with_reducible exact p1) (by with_reducible exact p2)).mono ?_;rintro e w4 ⟨M,q1,e1,q2,e2,rfl,hM,u,h1M,Q,hM4,G⟩;have k4:Below wv.heap.size wv w4:=(by with_reducible exact nA k3 G);have c4:=N.out _ k4;have C:=bA (hX3.later G);obtain⟨s0,s1,s2,s3⟩:=C.out.c4;have d:=C.out.free)
    |((fail_if_success (have q:=hX3));go_at_call 128;refine(H.out.kp _ a1 a2 c1 c2 (by with_reducible exact p1) (by with_reducible exact p2)).mono ?_;rintro e w4 ⟨M,q1,e1,q2,e2,rfl,hM,u,h1M,Q,hM4,G⟩;have k4:Below wv.heap.size wv w4:=(by with_reducible exact nA k3 G);have c4:=N.out _ k4)
    |(go_at_call 128;refine(H.out.kp _ a1 a2 c1 c2 (by with_reducible exact p1.later (cA _ _)) (by with_reducible exact p2.later (cA _ _))).mono ?_;rintro e w4 ⟨M,q1,e1,q2,e2,rfl,hM,u,h1M,Q,hM4,G⟩;have k4:Below wv.heap.size wv w4:=(by with_reducible exact nA (nA k3 (cA _ _)) G);have c4:=N.out _ k4;have C:Hid (eA w4 w3.heap.size #[.string ⟨#[]⟩,.int .i64 0,.slice none 0 0,.slice none 0 0] 100):=bA ((eA.new w3 _ _).later G);obtain⟨s0,s1,s2,s3⟩:=C.out.c4;have d:=C.out.free))
  all_goals(go_wp2_with fail;go_meet)
  all_goals first
   |with_reducible exact⟨_,rfl,aAg k3.size u h1M Q hM k4⟩
   |exact⟨_,rfl,jm u h1M Q (by have:=aA hX3;omega) hM (Ka _) C.out k4⟩
   |exact⟨_,rfl,jm u h1M Q (by simp) hM k3.size C.out k4⟩
 obtain⟨X,rfl,M,q1,e1,q2,e2,hXb,hP1,hq1M,hRow,hRX,hqX,hXw,hMw,F⟩:=hcut;rename World=>w3;replace P:=bA (P.out.later F);have A:Hid (AB wv w3 X M q1 e1 q2 e2 tn):=⟨hXb,hP1,hRow⟩
 have HQ:=bA (⟨hq1M,hRX,hqX⟩:_/\_/\_);have hX3:=aA hXb;have hXP:w.heap.size+1+1<X:=by omega
 clear N vy0 vy1 vx0 hXb hP1 hq1M hRow hRX hqX F;obtain⟨U,Y,Z,t⟩:=A.out.X.c4;go_wp2;go_loopw [11,44] (fun _ i wr=>∃k:Nat,k<=tn.s9.length/\i=.int .i64 k/\Hid (∀j (h:j<k) (h':j<tn.s9.length),tn.s9[j].s≠key)/\w3=wr) (fun _ i _=>tn.s9.length-(intOf i).toNat)
 case atStart=>exact⟨0,La _,rfl,(fun j h=>absurd h (by omega)),rfl⟩
 case round=>
  obtain⟨k,hkl,rfl,HN,hw⟩:=hrel;subst hw;by_cases hlt:k<tn.s9.length
  ·obtain⟨g,rfl⟩:=bc A.out.R (by omega);obtain⟨pb,po,ep,hpl,v0,v1⟩:=((vC A.out.R).pairs).at hlt;simp only[Pa,Addr.mk.injEq,Yb]at ep;obtain⟨rfl,rfl⟩:=ep;rw[Wa]at v0 v1;cases hsm:(tn.s9[k].s.toList==key.toList) with
   |true=>
    have HS:=bA (zh A.out P.out HQ.out.1 (HQ.out.2.1 g rfl) (by omega) hlt ((wC _ _).1 hsm) H.out.rs);have E:Hid (V=(now,bB (·.name) (kI tn key now) f,1)):=by
     show _=_;rw[HV.out,Qa];cases hgg:xC (·.s) key tn.s9 with
     |some _=>rfl
     |none=>exact absurd ((wC _ _).1 hsm) (tT hgg _ (Xa hlt))
    have fz:=HS.out.2.2.2.2.2;obtain⟨-,-,-,-,-,-,z,K,-⟩:=P.out.cells;go_upto_region 11 with fail;clear v0 v1 fz U Y Z t z K;generalize w3.setCell ⟨g,k*2+1,none⟩ (.int .i64 now)=w7 at *;obtain⟨X7,p1,p2,P7,hL,-⟩:=HS.out;have HWF:=bA (H.out.wi w7 tn.l9 tn.m9 (bB (·.s) ⟨key,now⟩ tn.s9) q1 (some ⟨g,0,none⟩) e1 e2 P7.B p1 p2 HFI.out);rw[HKA.out,hL]at HWF;replace P:=bA P7;obtain⟨U,Y,Z,t⟩:=X7.c4;obtain⟨x0,x1,x2,x3,x4,x5,z,K,-,-,-,-,S⟩:=P7.cells;clear X7 p1 p2 P7 HS;generalize bB (·.name) (kI tn key now) f=RL at *;go_wp2_with fail;refine HWF.out.mono ?_;rintro e w9 ⟨ra,rc,rfl,ho,o⟩;have D:=bA (P.out.later o);have r:=bA ho;clear ho o x0 x1 x2 x3 x4 x5 z K U Y Z t;obtain⟨-,-,-,-,-,-,-,-,z0,z1,g0,g1,hz9⟩:=D.out.cells;go_wp2;refine bodyPost_ret (v:=?_) (by simp[results,results118,go_sem,z0,z1];rfl) rfl ?_;rw[E.out];first
     |exact⟨ra,⟨rc,rfl⟩,D.out.done r.out S⟩
     |exact⟨ra,rc,rfl,D.out.done r.out S⟩
   |false=>
    have HN2:Hid (∀j (h:j<k+1) (h':j<tn.s9.length),tn.s9[j].s≠key):=fun j hj hj'=>by
     by_cases e:j=k
     ·subst e;exact fun e'=>absurd ((wC _ _).2 e') (by rw[hsm];simp)
     ·exact HN.out j (by omega) hj'
    generalize tn.s9[k].s=kk at *;go_wp2;exact⟨⟨k+1,by omega,by go_num,HN2.out,by first|rfl|trivial⟩,by simp[intOf];omega⟩
  ·have HNO:Hid (xC (·.s) key tn.s9=none):=rJ fun p hp=>by
    obtain⟨j,hj,rfl⟩:=Ob hp;exact HN.out j (by omega) hj
   have HC1:=bA (HCT.out w3 ⟨#[]⟩ q1 q2 e1 e2 A.out.P.pairs (vC A.out.R).pairs);have HV2:Hid (V=if (qD c tn ⟨#[]⟩).2<=(qD c tn ⟨#[]⟩).1\/(iE tn=true/\f.length=10000) then(now,f,3) else if (qD c tn (vD key)).2<=(qD c tn (vD key)).1 then(now,f,4) else(now,bB (·.name) (kI tn key now) f,2)):=by show _=_;rw[HV.out,Oa (by rw[HNO.out];simp)]
   have hkn:¬((k:Int)<tn.s9.length):=by omega
   clear HV HN hlt hkl;obtain⟨x0,x1,x2,x3,x4,x5,z,K,-,-,-,-,S⟩:=P.out.cells;generalize qD c tn ⟨#[]⟩=CV at *;obtain⟨n1,l1⟩:=CV;go_upto_region 15 with(first
    |(go_at_call 130;refine HC1.out.mono ?_;rintro e w4 ⟨rfl,o⟩;replace A:=bA (A.out.later o);replace P:=bA (P.out.later o);clear o x0 x1 x2 x3 x4 x5 z K U Y Z t S;obtain⟨U,Y,Z,t⟩:=A.out.X.c4;obtain⟨x0,x1,x2,x3,x4,x5,z,K,-,-,-,-,S⟩:=P.out.cells)
    |(go_at_call 119;refine(HID.out _ q1 q2 e1 e2).mono ?_;rintro e w5 ⟨rfl,o⟩;replace A:=bA (A.out.later o);replace P:=bA (P.out.later o);clear o x0 x1 x2 x3 x4 x5 z K U Y Z t S;obtain⟨U,Y,Z,t⟩:=A.out.X.c4;obtain⟨x0,x1,x2,x3,x4,x5,z,K,-,-,-,-,S⟩:=P.out.cells))
   generalize iE tn=IB at *;go_cut [88] (fun s wx=>s=.bool (decide (l1<=n1) ||(IB&&decide (f.length=10000)))/\w5=wx)
   case first=>
    have h3:l1<=n1/\(decide (l1<=n1) ||(IB&&decide (f.length=10000)))=true\/¬l1<=n1/\(IB=false/\(decide (l1<=n1) ||(IB&&decide (f.length=10000)))=false\/IB=true/\(((f.length:Int)==10000)=true/\(decide (l1<=n1) ||(IB&&decide (f.length=10000)))=true\/((f.length:Int)==10000)=false/\(decide (l1<=n1) ||(IB&&decide (f.length=10000)))=false)):=by
     by_cases u:l1<=n1
     ·exact Ca ⟨u,by simp[u]⟩
     ·refine Ja ⟨u,?_⟩;cases IB
      ·exact Ca ⟨rfl,by simp[u]⟩
      ·refine Ja ⟨rfl,?_⟩;by_cases Q:f.length=10000
       ·exact Ca ⟨by simp[Q],by simp[Q]⟩
       ·exact Ja ⟨by simp;omega,by simp[u,Q]⟩
    rcases h3 with⟨u,HD⟩|⟨u,⟨rfl,HD⟩|⟨rfl,⟨Q,HD⟩|⟨Q,HD⟩⟩⟩
    all_goals
     have HD:=bA HD;go_wp2_with fail;go_meet;exact⟨by rw[HD.out],rfl⟩
   obtain⟨rfl,hw⟩:=hcut;subst hw;have O:Hid (V=if (decide (l1<=n1) ||(IB&&decide (f.length=10000)))=true then(now,f,3) else if (qD c tn (vD key)).2<=(qD c tn (vD key)).1 then(now,f,4) else(now,bB (·.name) (kI tn key now) f,2)):=by
    refine bA ?_;rw[HV2.out];simp only[He,Sa,Eb]
   clear HV2 HC1;cases hcb:(decide (l1<=n1) ||(IB&&decide (f.length=10000))) with
   |true=>
    rw[hcb,Qa rfl]at O;clear hcb;go_wp2_with(go_at_call 117;refine(H.out.sm _ P.out.B).mono ?_;rintro e w9 ⟨ra,rc,rfl,ho,o⟩;have D:=bA (P.out.later o);have r:=bA ho;clear ho o x0 x1 x2 x3 x4 x5 z K;obtain⟨-,-,-,-,-,-,-,-,z0,z1,g0,g1,hz9⟩:=D.out.cells);refine bodyPost_ret (v:=?_) (by simp[results,results118,go_sem,z0,z1];rfl) rfl ?_;rw[O.out];first
     |exact⟨ra,⟨rc,rfl⟩,D.out.done r.out S⟩
     |exact⟨ra,rc,rfl,D.out.done r.out S⟩
   |false=>
    rw[hcb,Oa (by simp)]at O;clear hcb x0 x1 x2 x3 x4 x5 z K U Y Z t S;have dx:=fun x:fB w5=>(P.out.later x.h).cells;have dm:=fun x:fB w5=>(A.out.later x.h).X.c4;simp only[forall_and]at dx dm;obtain⟨dx0,dx1,dx2,dx3,dx4,dx5,-⟩:=dx;obtain⟨dm0,dm1,dm2,dm3⟩:=dm;have HC2:=bA (fun y:fB w5=>HCT.out y.w' (vD key) q1 q2 e1 e2 (A.out.P.pairs.later y.h) ((vC A.out.R).pairs.later y.h));have hnel:=fB.there w5;generalize qD c tn (vD key)=CV at *;obtain⟨n2,l2⟩:=CV;generalize hmk:vD key=mk at *;clear hmk HCT;go_wp2_with fail;refine eB (by kernel_rfl) (by kernel_rfl) ?_;repeat (go_big_quiet_step (first|(go_at_call 144;exact pB (HMT.out _))|(go_at_call 130;exact pB (HC2.out _))|fail))
    refine wpQuiet_nil ?_;rintro _ ⟨y,rfl⟩;replace P:=bA (P.out.later y.h);replace A:=bA (A.out.later y.h);clear dx0 dx1 dx2 dx3 dx4 dx5 dm0 dm1 dm2 dm3 hnel HC2 HMT;generalize y.w'=w6 at *;clear y;obtain⟨U,Y,Z,t⟩:=A.out.X.c4;obtain⟨x0,x1,x2,x3,x4,x5,z,K,-,-,-,-,S⟩:=P.out.cells;by_cases hme:l2<=n2
    ·have E:Hid (V=(now,f,4)):=by show _=_;rw[O.out,Qa hme]
     go_wp2_with(go_at_call 117;refine(H.out.sm _ P.out.B).mono ?_;rintro e w9 ⟨ra,rc,rfl,ho,o⟩;have D:=bA (P.out.later o);have r:=bA ho;clear ho o x0 x1 x2 x3 x4 x5 z K;obtain⟨-,-,-,-,-,-,-,-,z0,z1,g0,g1,hz9⟩:=D.out.cells);refine bodyPost_ret (v:=?_) (by simp[results,results118,go_sem,z0,z1];rfl) rfl ?_;rw[E.out];first
      |exact⟨ra,⟨rc,rfl⟩,D.out.done r.out S⟩
      |exact⟨ra,rc,rfl,D.out.done r.out S⟩
    have E:Hid (V=(now,bB (·.name) (kI tn key now) f,2)):=by show _=_;rw[O.out,Oa hme]
    clear O x0 x1 x2 x3 x4 x5 K U Y Z HID;go_wp2;go_loopw [15] (fun i wr=>∃j:Nat,j<=tn.s9.length/\i=.int .i64 j/\Hid (∀i (h:i<tn.s9.length),i<j->wH tn.s9[i].s key=true)/\w6=wr) (fun i _=>tn.s9.length-(intOf i).toNat)
    case atStart=>exact⟨0,La _,rfl,(fun i _ hi=>absurd hi (by omega)),rfl⟩
    case round=>
     obtain⟨j,hj,rfl,HJ,hw⟩:=hrel;subst hw;have hcs:(∃h:j<tn.s9.length,wH tn.s9[j].s key=true)\/((¬(j:Int)<tn.s9.length/\j=tn.s9.length)\/∃h:j<tn.s9.length,Op.bytesLess tn.s9[j].s.toList key.toList=false)/\bB (·.s) ⟨key,now⟩ tn.s9=tn.s9.take j++⟨key,now⟩:: tn.s9.drop j:=by
      by_cases J:j<tn.s9.length
      ·cases I:wH tn.s9[j].s key
       ·exact Ja ⟨Ja ⟨J,I⟩,PN hj (fun i h hi=>HJ.out i h hi) (fun _=>I) HNO.out⟩
       ·exact Ca ⟨J,I⟩
      ·exact Ja ⟨Ca ⟨by omega,by omega⟩,PN hj (fun i h hi=>HJ.out i h hi) (fun h=>absurd h J) HNO.out⟩
     rcases hcs with⟨J,I⟩|⟨hx,hcut⟩
     ·obtain⟨g,rfl⟩:=bc A.out.R (by omega);obtain⟨pb,po,ep,hpl,v0,-⟩:=((vC A.out.R).pairs).at J;simp only[Pa,Addr.mk.injEq,Yb]at ep;obtain⟨rfl,rfl⟩:=ep;rw[Wa]at v0;have hq2:Op.bytesLess tn.s9[j].s.toList key.toList=true:=I;have HJ2:Hid (∀i (h:i<tn.s9.length),i<j+1->wH tn.s9[i].s key=true):=fun i h hi=>by
       by_cases e:i=j
       ·subst e;exact I
       ·exact HJ.out i h (by omega)
      clear I;generalize tn.s9[j].s=kk at *;go_wp2;exact⟨⟨j+1,by omega,by go_num,HJ2.out,by first|rfl|trivial⟩,by simp[intOf];omega⟩
     have HQ2:Hid (flatK (bB (·.s) ⟨key,now⟩ tn.s9)=flatK (tn.s9.take j)++[.string key,.int .i64 now]++flatK (tn.s9.drop j)/\(bB (·.s) (⟨key,now⟩:lA) tn.s9).length=j+1+(tn.s9.length-j)):=by
      refine bA ?_;rw[hcut];refine⟨?_,by simp;omega⟩;rw[show tn.s9.take j++(⟨key,now⟩:lA):: tn.s9.drop j=(tn.s9.take j++[(⟨key,now⟩:lA)])++tn.s9.drop j by simp,nT,nT];rfl
     have hl1:(tn.s9.take j).length=j:=by simp;omega
     have hl2:(tn.s9.drop j).length=tn.s9.length-j:=by simp
     clear hcut;have hc3:(q2=none/\e2=0/\tn.s9.length=0/\j=0)\/∃g,q2=some ⟨g,0,none⟩/\((¬(j:Int)<tn.s9.length/\j=tn.s9.length)\/∃h:j<tn.s9.length,Op.bytesLess tn.s9[j].s.toList key.toList=false):=by
      rcases aFm A.out.R with⟨u,Q,h3⟩|⟨g,u⟩
      ·exact Ca ⟨u,Q,h3,by omega⟩
      ·exact Ja ⟨g,u,hx⟩
     clear hx;rcases hc3 with⟨rfl,rfl,T,rfl⟩|⟨g,rfl,hx⟩
     rotate_left;have HSH:=bA (fun W (hW:Below w6.heap.size w6 W)=>aCa (vA A.out.R hW) hj);have hce:=aBm A.out.R;have hje:j<=e2:=by omega
     rcases hx with⟨hjn,-⟩|⟨J,hq2⟩
     rcases Decidable.em (e2=j) with he|he
     all_goals first
      |(have q:=T;rw[T]at t;go_upto_region 23 with fail;obtain⟨-,-,-,xa3⟩:=(A.out.X.alloc (.cells #[] 109)).c4;rw[T]at xa3)
      |(have q:=hjn;go_upto_region 23 with fail;obtain⟨-,-,-,xa3⟩:=(A.out.X.alloc (.cells #[] 109)).c4)
      |(obtain⟨pb,po,ep,hpl,v0,-⟩:=((vC A.out.R).pairs).at J;simp only[Pa,Addr.mk.injEq,Yb]at ep;obtain⟨rfl,rfl⟩:=ep;rw[Wa]at v0;generalize tn.s9[j].s=kk at *;go_upto_region 23 with fail;clear v0 hq2 hpl;obtain⟨-,-,-,xa3⟩:=(A.out.X.alloc (.cells #[] 109)).c4)
     all_goals
      clear t;go_upto_region 24 with(at_builtin;refine yt rfl _ _ rfl rfl _ rfl hl1 (by first|exact(HSH.out _ (cA _ _)).1|exact Ca rfl) (by omega) ?_;intro g8 cap8 w8 O8 B8;clear z xa3;obtain⟨-,-,-,-,-,-,z,-⟩:=(P.out.later B8.out).cells)
      have hs8:=B8.out.size;go_upto_region 25 with(at_builtin;refine gN rfl _ _ rfl underlying98 BD rfl (by omega) (by omega) rfl O8.out rfl rfl rfl (by simp[Value.oneCell']) (by omega) hs8 ?_;intro g10 cap10 w10 O10 T10;have B10:=bA (B8.out.trans (T10.out.below hs8 fun i hi e=>by omega));clear z;obtain⟨-,-,-,t⟩:=(A.out.X.later B10.out).c4;try rw[T]at t)
      have hs10:=B10.out.size;go_upto_region 26 with(at_builtin;first
       |(refine WC rfl _ _ rfl rfl O10.out (tn.s9.drop j) rfl hl2 (by first|exact(HSH.out _ B10.out).2|exact Ca (by omega)) (by omega) hs10 ?_;intro g12 cap12 w12 O12 B12;have l:=bA (B10.out.trans B12.out);have HA:=bA (ir A.out P.out HQ.out.2.2 hXP l.out O12.out HQ2.out.1 (by have:=HQ2.out.2;omega));clear t;obtain⟨U,Y,Z,t⟩:=(A.out.X.later l.out).c4;(try rw[T]at t);have b:=(A.out.X.later l.out).free 3)
       |(refine WC rfl _ _ rfl rfl O10.out (tn.s9.drop 0) rfl (by rw[hl2];omega) (Ca rfl) (by omega) hs10 ?_;intro g12 cap12 w12 O12 B12;have l:=bA (B10.out.trans B12.out);have HA:=bA (ir A.out P.out HQ.out.2.2 hXP l.out O12.out HQ2.out.1 (by have:=HQ2.out.2;omega));clear t;obtain⟨U,Y,Z,t⟩:=(A.out.X.later l.out).c4;(try rw[T]at t);have b:=(A.out.X.later l.out).free 3))
      obtain⟨x0,x1,x2,x3,x4,x5,z,K,-,-,-,-,-⟩:=(P.out.later l.out).cells;go_wp2_with fail;refine(H.out.wn HKA.out rfl (by have:=HQ2.out.2;omega) HA.out.2.2.2.B HA.out.2.1 HA.out.2.2.1 HFI.out).mono ?_;rintro e w9 ⟨ra,rc,rfl,ho,o⟩;have D:=bA (HA.out.2.2.2.later o);have r:=bA ho;have HZ:=bA HA.out.2.2.2.lt;clear ho o x0 x1 x2 x3 x4 x5 z K U Y Z t b HA;obtain⟨-,-,-,-,-,-,-,-,z0,z1,g0,g1,hz9⟩:=D.out.cells;generalize bB (·.name) (kI tn key now) f=RL at *;go_wp2;refine bodyPost_ret (v:=?_) (by simp[results,results118,go_sem,z0,z1];rfl) rfl ?_;rw[E.out];first
       |exact⟨ra,⟨rc,rfl⟩,D.out.done r.out HZ.out⟩
       |exact⟨ra,rc,rfl,D.out.done r.out HZ.out⟩
theorem oY (c:vB) (now:Int) (a:Option Addr) (cap:Nat) (d:List dA) (b key:ByteArray) (w:World) (t:oB w a d) (k:d.length+uA d<=1100000) (q:b.size<=1100000) (u:key.size<=1100000) (l:gB c now d=true):
 Calls prog 118 #[iD c,.agg #[.int .i64 now,.slice a d.length cap],.string b,.string key] w fun e A=>OC (iF c now d b key) w e A:=by
 cases hb:(yB b&&eI key) with
 |false=>
  rw[show iF c now d b key=(now,d,5) by unfold iF;rw[Oa (by rw[l];simp),Qa hb]];exact NL c now a cap d b key w t k q u l hb
 |true=>
  have g:=hb;rw[Sa]at g;obtain⟨m,r,z,-,f⟩:=oF l;have o:1<=c.w:=by simp only[jE,Sa]at m;exact(dK m.1.1.1.1.1).1
  have S:=aDb (cap:=cap) t k q l g.1;refine VG S u g.2 (QX (AW k) q).2.2.1 (ey f (eP f) o) ?_ (by show _=_;unfold iF;rw[Oa (by rw[l];simp),Oa (by rw[hb];simp)];rfl);have x:=BE (key:=fun p:lA=>p.s) (a:=⟨key,now⟩) (tA d b).s9;have B:=S.len;refine⟨S.fit.1,by show(bB (·.s) (⟨key,now⟩:lA) (tA d b).s9).length<=_;omega,fun i h=>?_⟩;rcases xH (Xa h) with e|e
  ·show 0<=((bB (·.s) (⟨key,now⟩:lA) (tA d b).s9)[i]'h).n/\_;rw[e];exact⟨r,by show now<=_;omega⟩
  ·obtain⟨j,y,v⟩:=Ob e;have:=S.fit.2.2 j y;rw[v]at this;exact this
