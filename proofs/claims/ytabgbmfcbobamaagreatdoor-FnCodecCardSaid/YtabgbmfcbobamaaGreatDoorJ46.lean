import Derived.Test.YtabgbmfcbobamaaGreatDoorJ31
import Derived.Test.YtabgbmfcbobamaaGreatDoorJ43
set_option maxRecDepth 100000
set_option maxHeartbeats 40000000
namespace Go.Proofs.YtabgbmfcbobamaaGreatDoor
open Go.RowKit Tryz
structure S0 (n:Nat) (w wx:World) (a:Option Addr) (cap:Nat) (c k cr fl:Int):Prop where
 dk:eA wx n #[.slice a 0 cap,.int .i64 c,.int .i64 k,.int .i64 cr,.int .i64 fl,.bool false] 78
 rd:eA wx (n+1) #[.slice none 0 0,.int .i64 0,.int .i64 0,.int .i64 0,.int .i64 0,.bool false] 78
 rl:eA wx (n+1+1) #[.int .i64 0,.int .i64 0,.int .i64 0] 80
 be:Below n w wx
section
variable {n:Nat} {w W W':World} {a:Option Addr} {cap:Nat} {c k cr fl:Int}
theorem S0.later (h:S0 n w W a cap c k cr fl) (b:Below W.heap.size W W'):S0 n w W' a cap c k cr fl:=⟨h.dk.later b,h.rd.later b,h.rl.later b,h.be.trans (b.mono (Xf (aA h.dk)))⟩
theorem S0.cells (h:S0 n w W a cap c k cr fl):(W.cell? ⟨n,0,none⟩=some (.slice a 0 cap)/\W.cell? ⟨n,1,none⟩=some (.int .i64 c)/\W.cell? ⟨n,2,none⟩=some (.int .i64 k)/\W.cell? ⟨n,3,none⟩=some (.int .i64 cr)/\W.cell? ⟨n,4,none⟩=some (.int .i64 fl)/\W.cell? ⟨n,5,none⟩=some (.bool false))/\(W.cell? ⟨n+1,0,none⟩=some (.slice none 0 0)/\W.cell? ⟨n+1,1,none⟩=some (.int .i64 0)/\W.cell? ⟨n+1,2,none⟩=some (.int .i64 0)/\W.cell? ⟨n+1,3,none⟩=some (.int .i64 0)/\W.cell? ⟨n+1,4,none⟩=some (.int .i64 0)/\W.cell? ⟨n+1,5,none⟩=some (.bool false))/\(W.cell? ⟨n+1+1,0,none⟩=some (.int .i64 0)/\W.cell? ⟨n+1+1,1,none⟩=some (.int .i64 0)/\W.cell? ⟨n+1+1,2,none⟩=some (.int .i64 0))/\(∀j,W.frozen? ⟨n,j,none⟩=false)/\(∀j,W.frozen? ⟨n+1,j,none⟩=false)/\(∀j,W.frozen? ⟨n+1+1,j,none⟩=false)/\n+1+1<W.heap.size:=
 ⟨h.dk.c6,h.rd.c6,h.rl.c3,h.dk.free,h.rd.free,h.rl.free,aA h.rl⟩
end
def aCr (w:World) (e:Ending) (f:World):Prop:=
 ∃(d:Option Addr) (b:Nat) (g:Option Addr) (sc:Nat) (K:pE) (L:mP) (x:Nat),e=.returned (.tuple #[.agg #[.slice d K.fs.length b,.int .i64 K.c,.int .i64 K.k,.int .i64 K.cr,.int .i64 K.fl,.bool K.dn],.agg #[.int .i64 L.first,.int .i64 L.last,.int .i64 L.size],.slice g 0 sc,.int .i64 (x:Nat)])/\
  qA f d K.fs/\CU K.fs/\Below w.heap.size w f
theorem un:(prog.info? 78).map (·.size)=some 6:=by kernel_rfl
theorem uq:(prog.info? 80).map (·.size)=some 3:=by kernel_rfl
theorem xk {j:Func} {t:Act} {w W:World} {K:pE} {L:mP} {a f s:Option Addr} {cap d sc code:Nat} {c k cr fl:Int} (I:j.results=#[.cell 2 78,.cell 3 80,.tmp 4,.tmp 5]) (x:t.tmps.getD 2 undef=.pointer (some ⟨w.heap.size+1,0,none⟩)) (y:t.tmps.getD 3 undef=.pointer (some ⟨w.heap.size+1+1,0,none⟩)) (z:t.tmps.getD 4 undef=.slice s 0 sc) (A:t.tmps.getD 5 undef=.int .i64 (code:Nat)) (G:t.defers=[]) (H:S0 w.heap.size w W a cap c k cr fl) (q:qA W f K.fs) (E:CU K.fs):
 bodyPost prog j (fun e N=>aCr w e N) .ret t (((((((((W.setCell ⟨w.heap.size+1,0,none⟩ (.slice f K.fs.length d)).setCell ⟨w.heap.size+1,1,none⟩ (.int .i64 K.c)).setCell ⟨w.heap.size+1,2,none⟩ (.int .i64 K.k)).setCell ⟨w.heap.size+1,3,none⟩ (.int .i64 K.cr)).setCell ⟨w.heap.size+1,4,none⟩ (.int .i64 K.fl)).setCell ⟨w.heap.size+1,5,none⟩ (.bool K.dn)).setCell ⟨w.heap.size+1+1,0,none⟩ (.int .i64 L.first)).setCell ⟨w.heap.size+1+1,1,none⟩ (.int .i64 L.last)).setCell ⟨w.heap.size+1+1,2,none⟩ (.int .i64 L.size)):=by
 obtain⟨h,l⟩:∃h,h=((((((W.setCell ⟨w.heap.size+1,0,none⟩ (.slice f K.fs.length d)).setCell ⟨w.heap.size+1,1,none⟩ (.int .i64 K.c)).setCell ⟨w.heap.size+1,2,none⟩ (.int .i64 K.k)).setCell ⟨w.heap.size+1,3,none⟩ (.int .i64 K.cr)).setCell ⟨w.heap.size+1,4,none⟩ (.int .i64 K.fl)).setCell ⟨w.heap.size+1,5,none⟩ (.bool K.dn)):=⟨_,rfl⟩
 rw[<-l];obtain⟨W',p⟩:∃W',W'=((h.setCell ⟨w.heap.size+1+1,0,none⟩ (.int .i64 L.first)).setCell ⟨w.heap.size+1+1,1,none⟩ (.int .i64 L.last)).setCell ⟨w.heap.size+1+1,2,none⟩ (.int .i64 L.size):=⟨_,rfl⟩
 rw[<-p];have u:=l ▸ aH _ _ _ _ _ _;have v:=p ▸ (((dB.refl _ _).setCell 0 _).setCell 1 _).setCell 2 _;have B:=((gA.but u).mono fun i _ e=>Ca e).trans' ((gA.but v).mono fun i _ e=>Ja e);have D:=eA.but (l ▸ AK H.rd) v (by omega);have F:eA W' (w.heap.size+1+1) #[.int .i64 L.first,.int .i64 L.last,.int .i64 L.size] 80:=by
  have:=(((H.rl.but u (by omega)).set 0 (.int .i64 L.first)).set 1 (.int .i64 L.last)).set 2 (.int .i64 L.size);rw[p];simpa using this
 have C:=H.be.trans (B.below (Ra (Xf (aA H.dk)) (Ka _)) fun i O e=>by omega);have m:=KH q B fun b o e g=>by
  rcases g with g|g
  ·exact AF (oP q H.rd) e g
  ·exact AF (CZ q H.rl) e g
 have r:(results j t.tmps).run prog W'=.ok (.tuple #[.agg #[.slice f K.fs.length d,.int .i64 K.c,.int .i64 K.k,.int .i64 K.cr,.int .i64 K.fl,.bool K.dn],.agg #[.int .i64 L.first,.int .i64 L.last,.int .i64 L.size],.slice s 0 sc,.int .i64 (code:Nat)]) W':=by
  have J:=run_loadVar_row (P:=prog) W' (w.heap.size+1) 78 78 _ (0,0) _ D underlying78 rfl (by rw[un];rfl);have M:=run_loadVar_row (P:=prog) W' (w.heap.size+1+1) 80 80 _ (0,0) _ F underlying80 rfl (by rw[uq];rfl);simp at x y z A;simp[results,I,x,y,z,A,asAddr,J,M]
 exact bodyPost_ret r G ⟨f,d,s,sc,K,L,code,rfl,m,E,C⟩
theorem NR (a:Option Addr) (cap:Nat) (c k cr fl:Int) (w:World) (hv:bH [] c k cr fl=true):
 Calls prog 74 #[.agg #[.slice a 0 cap,.int .i64 c,.int .i64 k,.int .i64 cr,.int .i64 fl,.bool false]] w fun e i=>aCr w e i:=by
 have HV:=bA hv;clear hv;go_enter func74,ntmps74;go_upto_region 2 with fail;have f:=PJ (w:=w) (x:=#[.slice a 0 cap,.int .i64 c,.int .i64 k,.int .i64 cr,.int .i64 fl,.bool false]) (tx:=78) (y:=#[.slice none 0 0,.int .i64 0,.int .i64 0,.int .i64 0,.int .i64 0,.bool false]) (ty:=78) (z:=#[.int .i64 0,.int .i64 0,.int .i64 0]) (tz:=80) (u:=#[]) (tu:=9) (Below.refl _ _);generalize ((((w.alloc (.cells #[.slice a 0 cap,.int .i64 c,.int .i64 k,.int .i64 cr,.int .i64 fl,.bool false] 78)).alloc (.cells #[.slice none 0 0,.int .i64 0,.int .i64 0,.int .i64 0,.int .i64 0,.bool false] 78)).alloc (.cells #[.int .i64 0,.int .i64 0,.int .i64 0] 80)).alloc (.cells #[] 9))=W3 at *;have H:Hid (S0 w.heap.size w W3 a cap c k cr fl):=⟨f.1,f.2.1,f.2.2.1,f.2.2.2.2⟩
 clear f;obtain⟨⟨A,B,C,E,F,G⟩,-⟩:=H.out.cells;have l:=bA (dS a cap [] c k cr fl false W3 (Ca rfl) cR.r9 (by simp) cR.sum);rw[HV.out]at l;simp only[Pd]at l;go_wp2_with fail;refine l.out.mono ?_;rintro e w4 ⟨rfl,r⟩;replace H:=bA (H.out.later r);clear r A B C E F G l;obtain⟨⟨A,B,C,E,F,G⟩,⟨r0,r1,r2,r3,r4,r5⟩,⟨s0,s1,s2⟩,yd,yr,yl,s⟩:=H.out.cells;obtain⟨v,d,W5,g,hfi,Z,hap⟩:=JT w4 a cap [] (Ca rfl) (by simp);simp only[Pd]at g;have t:=bA g;have M:Hid (S0 w.heap.size w W5 a cap c k cr fl):=H.out.later Z;have e0:W5.cell? ⟨w.heap.size,0,none⟩=some (.slice a 0 cap):=M.out.dk.cell 0;have b:=M.out.dk.free 0;have hl4:w.heap.size<w4.heap.size:=by omega
 clear g hfi Z hap;go_upto_region 4 with fail;go_cut [36] (fun _ wx=>∃v d,S0 w.heap.size w wx v d c k cr fl)
 case first=>as_aux_lemma=>
  go_wp2_with(at_builtin;refine Lib.wpList_append_run _ rfl _ _ _ _ rfl _ _ rfl rfl _ _ t.out ?_);go_meet;have I:dB w.heap.size W5 (W5.setCell ⟨w.heap.size,0,none⟩ (.slice v 0 d)):=(dB.refl _ _).setCell 0 _;have h0:=M.out.dk.set 0 (.slice v 0 d);exact⟨v,d,by simpa using h0,M.out.rd.but I (by omega),M.out.rl.but I (by omega),M.out.be.setCell (Ka _) _⟩
 clear M t e0 b hl4 H A B C E F G r0 r1 r2 r3 r4 r5 s0 s1 s2 yd yr yl s;clear v d;obtain⟨v,d,h6⟩:=hcut;rename World=>O;have H:=bA h6;clear h6;obtain⟨⟨A,B,C,E,F,G⟩,⟨r0,r1,r2,r3,r4,r5⟩,⟨s0,s1,s2⟩,yd,yr,yl,s⟩:=H.out.cells;have hl6:w.heap.size<O.heap.size:=by omega
 go_upto_block 0 with fail;go_cut [7,47] (fun nv _ wx=>nv=.slice (some ⟨O.heap.size,0,none⟩) 0 0/\Below O.heap.size O wx)
 case first=>as_aux_lemma=>
  go_wp2_with fail;go_loopw [7,47] (fun nv iv wr=>iv=.int .i64 0/\nv=.slice (some ⟨O.heap.size,0,none⟩) 0 0/\Below O.heap.size O wr) (fun _ iv _=>0-(intOf iv).toNat)
  case atStart=>exact⟨rfl,rfl,cA _ _⟩
  case round=>
   obtain⟨rfl,rfl,b0⟩:=hrel;go_wp2;go_meet;exact⟨rfl,b0⟩
 obtain⟨rfl,a0⟩:=hcut;rename World=>Q;replace H:=bA (H.out.later a0);clear a0 A B C E F G r0 r1 r2 r3 r4 r5 s0 s1 s2 yd yr yl s;obtain⟨⟨A,B,C,E,F,G⟩,-⟩:=H.out.cells;obtain⟨q,c1,k1,m,p,o,x1,hst,J,g0⟩:=JA (D:=⟨[],c,k,cr,fl,false⟩) (op:=bO 1) cR (by have:=aN 1;unfold maxLen;show(wQ 1).size<=_;omega) (by show(0:Nat)<=_;omega) (by show(0:Nat)<=_;omega);have V:=bA J;have N:Hid (xY ⟨[],c,k,cr,fl,false⟩ ⟨1,wQ 1,⟨#[]⟩,⟨#[]⟩,0⟩ ⟨q,c1,k1,m,p,o⟩ x1):=g0;unfold xY at N;simp only[Pd]at N;clear hst g0 J;go_upto_region 15 with fail;go_cut [10,11] (fun sa sb wx=>∃P,sa=.pointer (some ⟨P,0,none⟩)/\sb=.int .i64 (x1:Nat)/\PX Q P q c1 k1 m p o wx)
 case first=>as_aux_lemma=>
  have j:=bA (fun i (h:Below Q.heap.size Q i)=>(H.out.dk.later h).c6);go_region_held3 (fun i=>i.cell? ⟨w.heap.size,0,none⟩=some (.slice v 0 d)/\i.cell? ⟨w.heap.size,1,none⟩=some (.int .i64 c)/\i.cell? ⟨w.heap.size,2,none⟩=some (.int .i64 k)/\i.cell? ⟨w.heap.size,3,none⟩=some (.int .i64 cr)/\i.cell? ⟨w.heap.size,4,none⟩=some (.int .i64 fl)/\i.cell? ⟨w.heap.size,5,none⟩=some (.bool false))
   (first|go_keep|with_reducible exact j.out _ (qi T (Ka _))|with_reducible exact j.out _ (qi T S.size)|with_reducible exact j.out _ T|with_reducible exact j.out _ S|with_reducible exact j.out _ (nA S (cA _ _))|with_reducible exact j.out _ ((cA _ _).drew)|with_reducible exact j.out _ (nA T (cA _ _)))
   (first
   |(go_at_call 115;refine(dO _ _).mono ?_;rintro e v2 ⟨rfl,R⟩;have S:Below Q.heap.size Q v2:=(by first|with_reducible exact nA (Below.refl _ _).drew R|with_reducible exact nA ((cA _ _).drew) R);have c2:=j.out _ S;(first|(have U:=bR R)|skip))
   |(go_at_call 71;refine(N.out _ _ _ (Ca rfl)).mono ?_;rintro e v3 ⟨a2,Y,rfl,how,f⟩;have X:=bA how;have T:Below Q.heap.size Q v3:=(by first|with_reducible exact nA S f|with_reducible exact nA (nA S (cA _ _)) f);have c3:=j.out _ T;(first|(have U:=U.later f)|(have U:eA _ v2.heap.size _ _:=uO f)|skip);(try (obtain⟨q0,q1,q2,q3,q4,q5⟩:=U.c6;have b:=U.free))))
  all_goals(go_wp2_with fail;go_meet)
  all_goals first
   |with_reducible exact⟨_,rfl,rfl,gd X.out T⟩
   |exact⟨_,rfl,rfl,ge X.out T (by first|exact Ka _|exact S.size) U⟩
 obtain⟨P,rfl,rfl,a2,Y,hP,hPB,c0,r⟩:=hcut;rename World=>W8;replace H:=bA (H.out.later r);clear A B C E F G;obtain⟨⟨A,B,C,E,F,G⟩,⟨r0,r1,r2,r3,r4,r5⟩,⟨s0,s1,s2⟩,yd,yr,yl,s⟩:=H.out.cells;obtain⟨x0,x1',x2,x3,x4,x5⟩:=hPB.c6;by_cases hc:x1=0
 ·have hcb:((x1:Int) != 0)=false:=by simp[hc]
  clear hc;go_wp2;exact xk (K:=⟨q,c1,k1,m,p,o⟩) (L:=⟨1,1,0⟩) (code:=0) rfl rfl rfl rfl rfl rfl H.out c0 V.out
 ·have hcb:((x1:Int) != 0)=true:=by simpa using hc
  clear hc;go_wp2;exact xk (K:=⟨q,c1,k1,m,p,o⟩) (L:=⟨0,0,0⟩) rfl rfl rfl rfl rfl rfl H.out c0 V.out
section
open Go.Maps
attribute [local go_sem] rG sH mN eA.drewI dM.drewI dM.new dM.alloc dM.alloc2
def No0 (c:vB) (w:World) (e:Ending) (b:World):Prop:=∃M x,WH c 0 M/\cz M (.int .i64 x) w e b
structure O0 (w W:World) (c:vB) (a:Option Addr) (ca:Nat):Prop where
 C:eA W w.heap.size #[.int .i64 c.w,.int .i64 c.tl,.int .i64 c.ml,.int .i64 c.sh,.int .i64 c.ha,.int .i64 c.sg] 33
 D:eA W (w.heap.size+1) #[.slice a 0 ca,.int .i64 1000000,.int .i64 0,.int .i64 0,.int .i64 0,.bool false] 78
 R:eA W (w.heap.size+1+1) (iB none 0 none 0 lJ) 82
 B:Below w.heap.size w W
section
variable {w W W':World} {c:vB} {a a':Option Addr} {ca ca':Nat}
theorem O0.new:O0 w (((w.alloc (.cells #[.int .i64 c.w,.int .i64 c.tl,.int .i64 c.ml,.int .i64 c.sh,.int .i64 c.ha,.int .i64 c.sg] 33)).alloc (.cells #[.slice a 0 ca,.int .i64 1000000,.int .i64 0,.int .i64 0,.int .i64 0,.bool false] 78)).alloc (.cells (iB none 0 none 0 lJ) 82)) c a ca:=
 ⟨((eA.new _ _ _).alloc _).alloc _,by have:=(eA.new (w.alloc (.cells #[.int .i64 c.w,.int .i64 c.tl,.int .i64 c.ml,.int .i64 c.sh,.int .i64 c.ha,.int .i64 c.sg] 33)) #[.slice a 0 ca,.int .i64 1000000,.int .i64 0,.int .i64 0,.int .i64 0,.bool false] 78).alloc (.cells (iB none 0 none 0 lJ) 82);simpa using this,
   by have:=eA.new ((w.alloc (.cells #[.int .i64 c.w,.int .i64 c.tl,.int .i64 c.ml,.int .i64 c.sh,.int .i64 c.ha,.int .i64 c.sg] 33)).alloc (.cells #[.slice a 0 ca,.int .i64 1000000,.int .i64 0,.int .i64 0,.int .i64 0,.bool false] 78)) (iB none 0 none 0 lJ) 82;simpa using this,nA (nA (cA _ _) (cA _ _)) (cA _ _)⟩
theorem O0.later (h:O0 w W c a ca) (b:Below W.heap.size W W'):O0 w W' c a ca:=⟨h.C.later b,h.D.later b,h.R.later b,nA h.B b⟩
theorem O0.lt (h:O0 w W c a ca):w.heap.size+1+1<W.heap.size:=aA h.R
theorem O0.cells (h:O0 w W c a ca):W.cell? ⟨w.heap.size,0,none⟩=some (.int .i64 c.w)/\W.cell? ⟨w.heap.size,1,none⟩=some (.int .i64 c.tl)/\W.cell? ⟨w.heap.size,2,none⟩=some (.int .i64 c.ml)/\W.cell? ⟨w.heap.size,3,none⟩=some (.int .i64 c.sh)/\W.cell? ⟨w.heap.size,4,none⟩=some (.int .i64 c.ha)/\W.cell? ⟨w.heap.size,5,none⟩=some (.int .i64 c.sg)/\W.cell? ⟨w.heap.size+1,0,none⟩=some (.slice a 0 ca)/\W.cell? ⟨w.heap.size+1,1,none⟩=some (.int .i64 1000000)/\W.cell? ⟨w.heap.size+1,2,none⟩=some (.int .i64 0)/\W.cell? ⟨w.heap.size+1,3,none⟩=some (.int .i64 0)/\W.cell? ⟨w.heap.size+1,4,none⟩=some (.int .i64 0)/\W.cell? ⟨w.heap.size+1,5,none⟩=some (.bool false)/\dM W (w.heap.size+1+1)/\w.heap.size<W.heap.size/\w.heap.size+1<W.heap.size/\w.heap.size+1+1<W.heap.size/\¬w.heap.size=W.heap.size/\¬w.heap.size+1=W.heap.size/\¬w.heap.size+1+1=W.heap.size:=
 have:=h.lt
 ⟨h.C.cell 0,h.C.cell 1,h.C.cell 2,h.C.cell 3,h.C.cell 4,h.C.cell 5,h.D.cell 0,h.D.cell 1,h.D.cell 2,h.D.cell 3,h.D.cell 4,h.D.cell 5,h.R.box rfl,by omega,by omega,this,by omega,by omega,by omega⟩
theorem aDq {C:World->Prop} (h:O0 w W c a ca) (k:∀X,O0 w X c a' ca'->C X):C ((((((W.setCell ⟨w.heap.size+1,0,none⟩ (.slice a' 0 ca')).setCell ⟨w.heap.size+1,1,none⟩ (.int .i64 1000000)).setCell ⟨w.heap.size+1,2,none⟩ (.int .i64 0)).setCell ⟨w.heap.size+1,3,none⟩ (.int .i64 0)).setCell ⟨w.heap.size+1,4,none⟩ (.int .i64 0)).setCell ⟨w.heap.size+1,5,none⟩ (.bool false)):=by
 have b:gA (·=w.heap.size+1) W ((((((W.setCell ⟨w.heap.size+1,0,none⟩ (.slice a' 0 ca')).setCell ⟨w.heap.size+1,1,none⟩ (.int .i64 1000000)).setCell ⟨w.heap.size+1,2,none⟩ (.int .i64 0)).setCell ⟨w.heap.size+1,3,none⟩ (.int .i64 0)).setCell ⟨w.heap.size+1,4,none⟩ (.int .i64 0)).setCell ⟨w.heap.size+1,5,none⟩ (.bool false)):=((((((gA.refl (·=w.heap.size+1) W).setCell (Ca rfl) 0 _).setCell (Ca rfl) 1 _).setCell (Ca rfl) 2 _).setCell (Ca rfl) 3 _).setCell (Ca rfl) 4 _).setCell (Ca rfl) 5 _;exact k _ ⟨b.blk h.C (by omega),by have:=(((((h.D.set 0 (.slice a' 0 ca')).set 1 (.int .i64 1000000)).set 2 (.int .i64 0)).set 3 (.int .i64 0)).set 4 (.int .i64 0)).set 5 (.bool false);simpa using this,b.blk h.R (by omega),h.B.trans (b.below h.B.size fun k d e=>by omega)⟩
theorem dl {C:World->Prop} {w:World} {cs:Array Value} {t:TypeId} (k:∀W,Below w.heap.size w W->eA W w.heap.size cs t->W.heap.size=w.heap.size+1->C W):C (w.alloc (.cells cs t)):=k _ (cA _ _) (eA.new w _ _) (by simp)
theorem jq {g:Func} {t:Act} {M:yC} {x:Int} {f:Option Addr} {b:Nat} (h:g.results=#[.cell 4 82,.tmp 5]) (i:t.tmps.getD 4 undef=.pointer (some ⟨w.heap.size+1+1,0,none⟩)) (j:t.tmps.getD 5 undef=.int .i64 x) (o:t.defers=[]) (P:O0 w W c a ca) (m:WH c 0 M) (l:qA W a' M.d.fs) (n:oB W f M.ts):bodyPost prog g (fun e p=>No0 c w e p) .ret t (W.setRow (w.heap.size+1+1) (iB a' ca' f b M)):=
 bodyPost_ret (xt h i j P.R.row (sH _ _ _ _ _)) o ⟨M,x,m,a',ca',f,b,rfl,l.store P.R (mD _ _ _ _ _) (fF _ _ _),n.store P.R (mD _ _ _ _ _) (fF _ _ _),P.B.trans ((fF _ _ _).below P.B.size fun k q e=>by omega)⟩
end
theorem ZQ {c:vB} (e:jE c=true) {K:pE} (b:CU K.fs) (L:mP) (d u:Bool):WH c 0 ⟨K,L,0,[],0,d,u⟩:=
 ⟨b,jP e (by show xA 0 0 1000000000000=true;decide) (by simp) rfl,Ka _,⟨Af _,by show(0:Int)<=1000000000000000;decide⟩⟩
theorem aFf (b:Bool) (t:ByteArray):aK [] b false t=(ByteArray.empty,false):=by
 unfold aK;cases b<;>simp[zC]
theorem VJ (c:vB) (w:World) (hc:jE c=true):
 Calls prog 36 #[iD c,.agg #[.slice none 0 0,.int .i64 1000000,.int .i64 0,.int .i64 0,.int .i64 0,.bool false]] w fun e w'=>No0 c w e w':=by
 have HC:=bA hc
 have J:=bA (fun W=>kH c W)
 rw[hc]at J
 have O:bH [] 1000000 0 0 0=true:=by decide
 have G:=bA (fun W=>dS none 0 [] 1000000 0 0 0 false W (Or.inl rfl) cR.r9 (by simp) cR.sum)
 rw[O]at G
 have M:=bA (fun W=>KU none 0 ⟨[],1000000,0,0,0,false⟩ W (Or.inl rfl) (by simp))
 have H:=bA (fun R T t W=>xT R T [] 1000000 0 0 0 false t W (Or.inl rfl) (by simp))
 have I:=bA (fun R T t W=>VK R T [] 1000000 0 0 0 false t W (Or.inl rfl) cR.r9 (by simp) cR.sum)
 have HO:=bA (fun R T W=>NR R T 1000000 0 0 0 W O)
 simp only[List.length_nil]at G M H I
 simp only[aFf]at I
 simp only[zC]at H
 clear hc O
 unfold iD at *
 have fz:=xO
 go_enter func36,ntmps36
 go_wp2_with fail
 refine(J.out _).mono ?_
 rintro e w1 ⟨rfl,b⟩
 have P:=bA ((O0.new (w:=w) (c:=c) (a:=none) (ca:=0)).later b)
 clear b J
 obtain⟨d,f,g,h,j,l,m,n,o,p,q,r,s,u,v,x,y,z,A⟩:=P.out.cells
 go_wp2_with fail
 refine(G.out _).mono ?_
 rintro e w2 ⟨rfl,b⟩
 replace P:=bA (P.out.later b)
 clear b G d f g h j l m n o p q r s u v x y z A
 obtain⟨d,f,g,h,j,l,m,n,o,p,q,r,s,u,v,x,y,z,A⟩:=P.out.cells
 go_wp2_with fail
 refine(M.out _).mono ?_
 rintro e w3 ⟨R,T,rfl,hf3,b⟩
 replace P:=bA (P.out.later b)
 have d0:=P.out.D.free 0
 have d1:=P.out.D.free 1
 have d2:=P.out.D.free 2
 have d3:=P.out.D.free 3
 have d4:=P.out.D.free 4
 have d5:=P.out.D.free 5
 clear hf3 b M d f g h j l m n o p q r s u v x y z A
 obtain⟨d,f,g,h,j,l,m,n,o,p,q,r,s,u,v,x,y,z,A⟩:=P.out.cells
 go_upto_region 6 with fail
 refine aDq (C:=fun W=>Code.wp prog _ _ _ W) P.out ?_
 intro w4 U
 replace P:=bA U
 clear U d0 d1 d2 d3 d4 d5 d f g h j l m n o p q r s u v x y z A
 obtain⟨d,f,g,h,j,l,m,n,o,p,q,r,s,u,v,x,y,z,A⟩:=P.out.cells
 go_wp2_with fail
 refine(H.out _ _ _ _).mono ?_
 rintro e w5 ⟨rfl,b⟩
 replace P:=bA (P.out.later b)
 clear b H d f g h j l m n o p q r s u v x y z A
 obtain⟨d,f,g,h,j,l,m,n,o,p,q,r,s,u,v,x,y,z,A⟩:=P.out.cells
 go_upto_region 15 with fail
 refine dl (C:=fun W=>Code.wp prog _ _ _ W) ?_
 intro w10 b hS Q
 clear Q
 replace P:=bA (P.out.later b)
 have S:=bA hS
 clear b hS d f g h j l m n o p q r s u v x y z A
 generalize w5.heap.size=Y at *
 obtain⟨d,f,g,h,j,l,m,n,o,p,q,r,s,u,v,x,y,z,A⟩:=P.out.cells
 go_wp2_with fail
 refine(I.out _ _ _ _).mono ?_
 rintro e w11 ⟨rfl,b⟩
 replace P:=bA (P.out.later b)
 replace S:=bA (S.out.later b)
 clear b I d f g h j l m n o p q r s u v x y z A
 obtain⟨d,f,g,h,j,l,m,n,o,p,q,r,s,u,v,x,y,z,A⟩:=P.out.cells
 go_wp2_with fail
 refine(HO.out _ _ _).mono ?_
 rintro e w14 ⟨a7,c7,sl,sq,K,L,cd,rfl,X,hK,b⟩
 replace P:=bA (P.out.later b)
 replace S:=bA (S.out.later b)
 have F:=bA X
 have HK:=bA hK
 clear b X hK HO d f g h j l m n o p q r s u v x y z A
 go_upto_region 23 with fail
 refine dl (C:=fun W=>Code.wp prog _ _ _ (W.alloc _)) ?_
 intro w15 b hX hz
 refine dl (C:=fun W=>Code.wp prog _ _ _ W) ?_
 intro B N hL Q
 clear Q
 rw[hz]at hL
 replace b:=nA b N
 replace P:=bA (P.out.later b)
 replace S:=bA (S.out.later b)
 replace F:=bA (F.out.later b)
 have E:=bA (hX.later N)
 have LX:=bA hL
 clear b N hX hL hz
 generalize w14.heap.size=Z at *
 have q0:B.cell? ⟨Z,0,none⟩=some (.slice a7 K.fs.length c7):=E.out.cell 0
 have q1:B.cell? ⟨Z,1,none⟩=some (.int .i64 K.c):=E.out.cell 1
 have q2:B.cell? ⟨Z,2,none⟩=some (.int .i64 K.k):=E.out.cell 2
 have q3:B.cell? ⟨Z,3,none⟩=some (.int .i64 K.cr):=E.out.cell 3
 have q4:B.cell? ⟨Z,4,none⟩=some (.int .i64 K.fl):=E.out.cell 4
 have q5:B.cell? ⟨Z,5,none⟩=some (.bool K.dn):=E.out.cell 5
 obtain⟨d,f,g,h,j,l,m,n,o,p,q,r,s,u,v,x,y,z,A⟩:=P.out.cells
 by_cases V:cd=0
 rotate_left
 ·have fM:=lE a7 c7 none 0 ⟨K,⟨0,0,0⟩,0,[],0,false,false⟩
  simp only[List.length_nil]at fM
  have g0:((cd:Int) != 0)=true:=by simpa using V
  clear fz
  go_wp2
  exact jq rfl rfl rfl rfl P.out (ZQ HC.out HK.out _ _ _) F.out (Or.inl rfl)
 subst V
 clear d f g h j l m n o p q r s u v x y z A q0 q1 q2 q3 q4 q5
 go_upto_region 25 with fail
 go_wp2_with fail
 go_loopw [8,20,21,22,23,24,88] (fun l8 _ _ _ _ _ i wr=>i=.int .i64 0/\l8=.int .i64 0/\wr=B) (fun _ _ _ _ _ _ i _=>0-(intOf i).toNat)
 case atStart=>exact⟨rfl,rfl,rfl⟩
 case round=>
  obtain⟨rfl,rfl,rfl⟩:=hrel
  have fM:=lE a7 c7 none 0 ⟨K,L,0,[],0,false,true⟩
  dsimp only[List.length_nil]at fM
  have q0:wr.cell? ⟨Z,0,none⟩=some (.slice a7 K.fs.length c7):=E.out.cell 0
  have q1:wr.cell? ⟨Z,1,none⟩=some (.int .i64 K.c):=E.out.cell 1
  have q2:wr.cell? ⟨Z,2,none⟩=some (.int .i64 K.k):=E.out.cell 2
  have q3:wr.cell? ⟨Z,3,none⟩=some (.int .i64 K.cr):=E.out.cell 3
  have q4:wr.cell? ⟨Z,4,none⟩=some (.int .i64 K.fl):=E.out.cell 4
  have q5:wr.cell? ⟨Z,5,none⟩=some (.bool K.dn):=E.out.cell 5
  have q6:wr.cell? ⟨Z+1,0,none⟩=some (.int .i64 L.first):=LX.out.cell 0
  have q7:wr.cell? ⟨Z+1,1,none⟩=some (.int .i64 L.last):=LX.out.cell 1
  have q8:wr.cell? ⟨Z+1,2,none⟩=some (.int .i64 L.size):=LX.out.cell 2
  have s0:wr.cell? ⟨Y,0,none⟩=some (.int .i64 0):=S.out.cell 0
  have s1:wr.cell? ⟨Y,1,none⟩=some (.slice none 0 0):=S.out.cell 1
  obtain⟨d,f,g,h,j,l,m,n,o,p,q,r,s,u,v,x,y,z,A⟩:=P.out.cells
  clear fz
  go_wp2
  exact jq rfl rfl rfl rfl P.out (ZQ HC.out HK.out _ _ _) F.out (Or.inl rfl)
end
theorem nc (a:List lC):(dF a).length=a.length*4:=by
 induction a with
 |nil=>rfl
 |cons r q b=>simp only[dF,Sc,Za,Jb,Pd]at b |-;omega
theorem er (b:List lC):∀u∈dF b,u.oneCell'=true:=fun u a=>by
 obtain⟨r,_,h⟩:=Uf.1 a;simp only[Ab,Kd,Hf]at h;rcases h with rfl|rfl|rfl|rfl<;>rfl
theorem PH (a b:List lC):dF (a++b)=dF a++dF b:=by simp[dF]
theorem BS {w:World} {g p:Nat} {a:Array Value} {t:TypeId} {b:List lC} {i:Nat} {v:Value} {k:lC} (c:eA w g a t) (h:vY w g 0 b) (f:i<b.length) (n:i*4<=p/\p<=i*4+3) (m:wY a 0 i b[i]->i*4+3<a.size->wY (a.setIfInBounds p v) 0 i k):vY (w.setCell ⟨g,p,none⟩ v) g 0 (b.set i k):=
 LT (c.set p v) fun j l=>by
  have d:j<b.length:=by simpa using l
  rw[List.getElem_set];split
  ·rename_i e;subst e;refine m (lQ c h i f) ?_;have:=(Vb.1 (lQ c h i f).2.2.2).1;omega
  ·exact(lQ c h j d).set (by omega) v
theorem AZ {c:List lC} (h:∀r∈c,sN r) (i:Nat) {b:lC} (d:sN b):∀r∈c.set i b,sN r:=fun r a=>by
 rcases Me a with a|rfl
 ·exact h r a
 ·exact d
theorem PM {c:List lC} (h:∀r∈c,sN r) {b:lC} (d:sN b):∀r∈c++[b],sN r:=fun r a=>by
 rcases Oc.1 a with a|a
 ·exact h r a
 ·rw[Tc.1 a];exact d
theorem iX {w:World} {d g t:Nat} {c:List lC} (h:w.ownsRow d 31 4 (.slice (some ⟨g,0,none⟩) c.length t) c.length (dF c)) (i:Nat) (l:i<c.length):∃b,eA w g b 31/\vY w g 0 c/\d<=g/\w.cell? ⟨g,i*4,none⟩=some (.int .i64 c[i].kind)/\w.cell? ⟨g,i*4+1,none⟩=some (.string c[i].n9)/\w.cell? ⟨g,i*4+2,none⟩=some (.string c[i].text)/\w.cell? ⟨g,i*4+3,none⟩=some (.int .i64 c[i].num)/\(∀j,w.frozen? ⟨g,j,none⟩=false)/\g<w.heap.size:=by
 rcases h.2 with⟨_,z⟩|⟨x,s,b,e,u,v,_⟩
 ·omega
 ·have f:=nK h;simp only[Value.slice.injEq,Pa,Addr.mk.injEq,Yb,Rg]at e;obtain⟨rfl,_⟩:=e;have k:eA w g b 31:=v;rcases f with f|⟨y,A,m,a,n,_,_,f⟩
  ·rw[f]at l;exact absurd l (by simp)
  ·simp only[Pa,Addr.mk.injEq,Yb]at n;obtain⟨rfl,rfl⟩:=n;obtain⟨o,p,q,r⟩:=f i l;rw[Wa]at o p q r;exact⟨b,k,f,u,o,p,q,r,k.free,aA k⟩
theorem SW (B P N:Nat) (w:World) (h:kB w B P N) (X:N<=40000):
 Calls prog 54 #[.pointer (some ⟨B,0,none⟩),.int .i64 4] w fun e E=>∃(g c:Nat) (a:List lC),e=.returned (.slice (some ⟨g,0,none⟩) a.length c)/\(1<=a.length/\a.length<=4)/\(∀r∈a,sN r)/\E.ownsRow w.heap.size 31 4 (.slice (some ⟨g,0,none⟩) a.length c) a.length (dF a)/\kB E B P (N+1000)/\dB B w E:=by
 have b:Hid (kB w B P N):=h;have R:=h.lt;have D:=h.up.2;clear h;go_enter func54,ntmps54;go_wp2_with fail;refine(cB B P N 4 _ (b.out.later (cA _ _)) (by omega) (by omega) (by omega)).mono ?_;rintro e F ⟨x,S,rfl,o,f⟩;have G:Hid (kB F B P (N+1)/\dB B w F):=⟨o,(dB.of (cA _ _)).trans f⟩
 have k:Hid (F.ownsRow w.heap.size 31 4 (.slice (some ⟨w.heap.size,0,none⟩) 0 0) 0 []):=(gA.but f).row (World.ownsRow_made w #[] 0 (Ka _) (by simp[maxLen]) (by simp)) (fun g O e=>by simp[Value.ownBlock]at O;omega);clear o f b;go_wp2;go_loopw [5,7] (fun l i wr=>∃(a:List lC) (g c:Nat),l=.slice (some ⟨g,0,none⟩) a.length c/\a.length<=x+1/\i=.int .i64 (a.length:Nat)/\Hid (∀r∈a,sN r)/\Hid (wr.ownsRow w.heap.size 31 4 (.slice (some ⟨g,0,none⟩) a.length c) a.length (dF a))/\Hid (kB wr B P (N+1+200*a.length)/\dB B w wr)) (fun _ i _=>x+1-(intOf i).toNat)
 case atStart=>exact⟨[],w.heap.size,0,rfl,La _,rfl,(fun r U=>by cases U),k.out,G.out⟩
 case round=>
  clear k G;obtain⟨a,g,c,rfl,Z,rfl,I,z,b⟩:=hrel;have V:w.heap.size<=wr.heap.size:=b.out.2.size;by_cases Q:a.length<x+1
  ·have t:(a.length:Int)<1+(x:Int):=by omega
   go_wp2_with fail;refine(XK B P (N+1+200*a.length) wr b.out.1 (by omega)).mono ?_;rintro e y ⟨r,rfl,s,p,d⟩;have H:Hid (kB y B P (N+1+200*a.length+200)/\dB B w y):=⟨p,b.out.2.trans d⟩
   have C:Hid (y.ownsRow w.heap.size 31 4 (.slice (some ⟨g,0,none⟩) a.length c) a.length (dF a)):=(gA.but d).row z.out (fun q T e=>by have:=(z.out.lt q T).1;omega);have u:w.heap.size<=y.heap.size:=by have:=d.size;omega
   have A:=bA s;clear s p d z b;go_wp2_with(at_builtin;refine cK rfl _ _ rfl underlying23 xV rfl (by omega) (by omega) (v:=.slice (some ⟨g,0,none⟩) a.length c) rfl C.out rfl (by simp) rfl (by simp[Value.oneCell']) (by omega) u ?_;intro M m W K L _);have n:Below w.heap.size y W:=L.out.below u fun i Y e=>by omega
   have j:(a++[r]).length=a.length+1:=by simp
   have J:=K.out;rw[show dF a++(#[Value.int .i64 r.kind,.string r.n9,.string r.text,.int .i64 r.num]:Array Value).toList=dF (a++[r]) by rw[PH];rfl,<-j]at J;exact⟨⟨a++[r],M,m,by rw[j],by omega,by rw[j];go_num,PM I.out A.out,J,(H.out.1.below (n.mono D)).mono (by omega),H.out.2.below_to n⟩,by simp[intOf];omega⟩
  ·have t:¬((a.length:Int)<1+(x:Int)):=by omega
   go_wp2;go_ret;exact⟨g,c,a,rfl,⟨by omega,by omega⟩,I.out,z.out,b.out.1.mono (by omega),b.out.2⟩
def aDh (w c:World) (B P N:Nat) (e:Ending):Prop:=∃(a:Option Addr) (d:Nat) (b:List lC),e=.returned (.slice a b.length d)/\b.length<=600/\(∀r∈b,sN r)/\dG c w.heap.size a b/\kB c B P N/\dB B w c
theorem NS (B P N:Nat) (w:World) (base g cv:Nat) (l:List lC) (h:kB w B P N) (hN:N<=90000) (hrow:w.ownsRow base 31 4 (.slice (some ⟨g,0,none⟩) l.length cv) l.length (dF l)) (h1:1<=l.length) (h7:l.length<=4) (hgd:∀r∈l,sN r):
 Calls prog 55 #[.pointer (some ⟨B,0,none⟩),.slice (some ⟨g,0,none⟩) l.length cv] w fun e w'=>aDh w w' B P (N+100) e:=by
 obtain⟨ti,hti,ht0,ht1,ht2⟩:=info_parts xV;have HI:=bA hti;clear hti;have HC:Hid (kB w B P N):=h;have hlt:=h.lt;have W:=h.up.2;have Q:=bA hgd;have J:=bA hrow;clear h hrow hgd;go_enter func55,ntmps55;go_wp2_with(at_builtin;refine wpList_append_lies _ rfl _ _ _ rfl w.heap.size 31 ti _ 4 48 underlying23 HI.out ht0 ht1 ht2 rfl (by omega) (.slice (some ⟨w.heap.size,0,none⟩) 0 0) 0 [] rfl (by exact World.ownsRow_made w #[] 0 (Ka _) (by simp[maxLen]) (by simp)) ⟨g,0,none⟩ l.length cv (dF l) rfl (nc l) (by exact(vA J.out (cA _ _)).cells rfl) (by exact er l) (by omega) (by simp[maxLen];omega) (by omega) (by simp) (w.heap.size+1) (by simp) ?_;intro y m w1 R T hat1 hlt1);rw[Wa,Nb]at R;have hB1:Below w.heap.size w w1:=(cA w _).grown T (by simp) (fun q S=>by simp[Value.ownBlock]at S;omega);have M:=bA R;have HB1:Hid (Below w.heap.size w w1):=hB1;clear R T hat1 hlt1 hB1 J;refine(AO B P N l.length w1 (HC.out.later HB1.out) (by omega) h1 (by omega)).mono ?_;rintro e w2 ⟨i,hi,rfl,hc2,hb2⟩;have H2:Hid (kB w2 B P (N+1)/\dB B w w2):=⟨hc2,(dB.of HB1.out).trans hb2⟩
 have O:Hid (w2.ownsRow w.heap.size 31 4 (.slice (some ⟨y,0,none⟩) l.length m) l.length (dF l)):=(gA.but hb2).row M.out (fun q S e=>by have:=(M.out.lt q S).1;omega);clear hc2 hb2 M HB1 HC;go_wp2_with fail;refine(cB B P (N+1) 6 w2 H2.out.1 (by omega) (by omega) (by omega)).mono ?_;rintro e H ⟨sw,hsw,rfl,hc3,hb3⟩;have I:Hid (kB H B P (N+2)/\dB B w H):=⟨hc3,H2.out.2.trans hb3⟩
 have k:Hid (H.ownsRow w.heap.size 31 4 (.slice (some ⟨y,0,none⟩) l.length m) l.length (dF l)):=(gA.but hb3).row O.out (fun q S e=>by have:=(O.out.lt q S).1;omega);have hz3:w.heap.size<=H.heap.size:=I.out.2.size;clear hc3 hb3 O H2;have hi':(i:Int)<(l.length:Nat):=by omega
 have hS3:=Q.out l[i] (Xa hi);have G:=bA hS3;clear hS3;have hcase:sw=0\/sw=1\/sw=2\/sw=3\/sw=4\/sw=5:=by omega
 clear hsw;rcases hcase with rfl|rfl|rfl|rfl|rfl|rfl
 ·go_wp2_with fail;refine(cB B P (N+2) 5 H I.out.1 (by omega) (by omega) (by omega)).mono ?_;rintro e x ⟨v,hv,rfl,u,n⟩;have L:Hid (kB x B P (N+3)/\dB B w x):=⟨u,I.out.2.trans n⟩
  have o:Hid (x.ownsRow w.heap.size 31 4 (.slice (some ⟨y,0,none⟩) l.length m) l.length (dF l)):=(gA.but n).row k.out (fun q S e=>by have:=(k.out.lt q S).1;omega);clear u n k I;have hv':(v:Int)<5:=by omega
  obtain⟨cur,D,A,E,x0,x1,x2,x3,F,hgl⟩:=iX o.out i hi;have a:=F (i*4);have b:=F (i*4+1);have c:=F (i*4+2);have d:=F (i*4+3);have t:=bA (Ud D A);clear D A F;go_wp2;refine bodyPost_ret (v:=.slice (some ⟨y,0,none⟩) l.length m) (by simp[results,results55,go_sem]) rfl ?_;have C:Below w.heap.size x (x.setCell ⟨y,i*4,none⟩ (.int .i64 (v:Nat))):=(Below.refl _ _).setCell E _;exact⟨some ⟨y,0,none⟩,m,l.set i ⟨(v:Nat),l[i].n9,l[i].text,l[i].num⟩,by rw[Xb],by rw[Xb];omega,AZ Q.out i ⟨G.out.1,G.out.2.1,⟨by simp only;omega,by simp only;omega⟩,G.out.2.2.2⟩,Ja ⟨y,0,_,_,rfl,E,t.out.1.set _ _,BS t.out.1 t.out.2 hi ⟨by omega,by omega⟩ fun h hs=>by
   obtain⟨a1,a2,a3,a4⟩:=h;rw[Wa]at a1 a2 a3 a4;refine⟨?_,?_,?_,?_⟩<;>simp[Bb]<;>first|assumption|omega|(simp_all;done)⟩,(L.out.1.below (C.mono W)).mono (by omega),L.out.2.below_to C⟩
 ·go_wp2_with fail;have K:Hid (RS (H.alloc (.cells ([0,7,-1,-2,9223372036854775807].map (Value.int .i64)).toArray 3)) H.heap.size 5):=LZ H _ _ 5 rfl (by decide);simp only[Lb,Qc]at K;refine(cB B P (N+2) 5 _ (I.out.1.later (cA _ _)) (by omega) (by omega) (by omega)).mono ?_;rintro e x ⟨v,hv,rfl,u,n⟩;obtain⟨z,Z,hz⟩:=(K.out.but n (by omega)).at hv;have L:Hid (kB x B P (N+3)/\dB B w x):=⟨u,(I.out.2.later (cA _ _)).trans n⟩
  have o:Hid (x.ownsRow w.heap.size 31 4 (.slice (some ⟨y,0,none⟩) l.length m) l.length (dF l)):=(gA.but n).row (vA k.out (cA _ _)) (fun q S e=>by have:=(k.out.lt q S).1;omega);clear u n k I K;have hv':(v:Int)<5:=by omega
  obtain⟨cur,D,A,E,x0,x1,x2,x3,F,hgl⟩:=iX o.out i hi;have a:=F (i*4);have b:=F (i*4+1);have c:=F (i*4+2);have d:=F (i*4+3);have t:=bA (Ud D A);clear D A F;go_wp2;refine bodyPost_ret (v:=.slice (some ⟨y,0,none⟩) l.length m) (by simp[results,results55,go_sem]) rfl ?_;have C:Below w.heap.size x (x.setCell ⟨y,i*4+3,none⟩ (.int .i64 z)):=(Below.refl _ _).setCell E _;exact⟨some ⟨y,0,none⟩,m,l.set i ⟨l[i].kind,l[i].n9,l[i].text,z⟩,by rw[Xb],by rw[Xb];omega,AZ Q.out i ⟨G.out.1,G.out.2.1,G.out.2.2.1,hz⟩,Ja ⟨y,0,_,_,rfl,E,t.out.1.set _ _,BS t.out.1 t.out.2 hi ⟨by omega,by omega⟩ fun h hs=>by
   obtain⟨a1,a2,a3,a4⟩:=h;rw[Wa]at a1 a2 a3 a4;refine⟨?_,?_,?_,?_⟩<;>simp[Bb]<;>first|assumption|omega|(simp_all;done)⟩,(L.out.1.below (C.mono W)).mono (by omega),L.out.2.below_to C⟩
 ·go_wp2_with fail;refine(jJ ⟨#[116]⟩ 1 255 H (by decide) (by omega) (by omega)).mono ?_;rintro e v1 ⟨f,ht1,rfl,X⟩;have B1:Hid (Below H.heap.size H v1):=X;clear X;go_wp2_with fail;refine(jJ ⟨#[116]⟩ 1 256 v1 (by decide) (by omega) (by omega)).mono ?_;rintro e v2 ⟨j,ht2,rfl,Y⟩;have V:Hid (Below H.heap.size H v2):=nA B1.out Y;clear Y B1;go_wp2_with fail;have K:Hid (vK (v2.alloc (.cells ([⟨#[]⟩,⟨#[90]⟩,f,j].map Value.string).toArray 9)) v2.heap.size 4 70000):=pL v2 _ 70000 _ 4 rfl (by
   simp only[List.all_cons,List.all_nil,Ag,Sa,Eb];refine⟨by decide,by decide,by omega,by omega⟩)
  simp only[Lb,Qc]at K;have hzz:H.heap.size<=v2.heap.size:=V.out.size;refine(cB B P (N+2) 4 _ ((I.out.1.later V.out).later (cA _ _)) (by omega) (by omega) (by omega)).mono ?_;rintro e x ⟨v,hv,rfl,u,n⟩;obtain⟨s,Z,hs⟩:=(K.out.but n (by omega)).at hv;have L:Hid (kB x B P (N+3)/\dB B w x):=⟨u,((I.out.2.trans (dB.of V.out)).later (cA _ _)).trans n⟩
  have o:Hid (x.ownsRow w.heap.size 31 4 (.slice (some ⟨y,0,none⟩) l.length m) l.length (dF l)):=(gA.but n).row (vA (vA k.out V.out) (cA _ _)) (fun q S e=>by have:=(k.out.lt q S).1;omega);clear u n k I K V;have hv':(v:Int)<4:=by omega
  obtain⟨cur,D,A,E,x0,x1,x2,x3,F,hgl⟩:=iX o.out i hi;have a:=F (i*4);have b:=F (i*4+1);have c:=F (i*4+2);have d:=F (i*4+3);have t:=bA (Ud D A);clear D A F;go_wp2;refine bodyPost_ret (v:=.slice (some ⟨y,0,none⟩) l.length m) (by simp[results,results55,go_sem]) rfl ?_;have C:Below w.heap.size x (x.setCell ⟨y,i*4+1,none⟩ (.string s)):=(Below.refl _ _).setCell E _;exact⟨some ⟨y,0,none⟩,m,l.set i ⟨l[i].kind,s,l[i].text,l[i].num⟩,by rw[Xb],by rw[Xb];omega,AZ Q.out i ⟨hs,G.out.2⟩,Ja ⟨y,0,_,_,rfl,E,t.out.1.set _ _,BS t.out.1 t.out.2 hi ⟨by omega,by omega⟩ fun h hs=>by
   obtain⟨a1,a2,a3,a4⟩:=h;rw[Wa]at a1 a2 a3 a4;refine⟨?_,?_,?_,?_⟩<;>simp[Bb]<;>first|assumption|omega|(simp_all;done)⟩,(L.out.1.below (C.mono W)).mono (by omega),L.out.2.below_to C⟩
 ·go_wp2_with fail;refine(jJ ⟨#[107]⟩ 1 65535 H (by decide) (by omega) (by omega)).mono ?_;rintro e v1 ⟨f,ht1,rfl,X⟩;have B1:Hid (Below H.heap.size H v1):=X;clear X;go_wp2_with fail;refine(jJ ⟨#[107]⟩ 1 65536 v1 (by decide) (by omega) (by omega)).mono ?_;rintro e v2 ⟨j,ht2,rfl,Y⟩;have V:Hid (Below H.heap.size H v2):=nA B1.out Y;clear Y B1;go_wp2_with fail;have K:Hid (vK (v2.alloc (.cells ([⟨#[]⟩,⟨#[107]⟩,⟨#[117,112]⟩,f,j].map Value.string).toArray 9)) v2.heap.size 5 70000):=pL v2 _ 70000 _ 5 rfl (by
   simp only[List.all_cons,List.all_nil,Ag,Sa,Eb];refine⟨by decide,by decide,by decide,by omega,by omega⟩)
  simp only[Lb,Qc]at K;have hzz:H.heap.size<=v2.heap.size:=V.out.size;refine(cB B P (N+2) 5 _ ((I.out.1.later V.out).later (cA _ _)) (by omega) (by omega) (by omega)).mono ?_;rintro e x ⟨v,hv,rfl,u,n⟩;obtain⟨s,Z,hs⟩:=(K.out.but n (by omega)).at hv;have L:Hid (kB x B P (N+3)/\dB B w x):=⟨u,((I.out.2.trans (dB.of V.out)).later (cA _ _)).trans n⟩
  have o:Hid (x.ownsRow w.heap.size 31 4 (.slice (some ⟨y,0,none⟩) l.length m) l.length (dF l)):=(gA.but n).row (vA (vA k.out V.out) (cA _ _)) (fun q S e=>by have:=(k.out.lt q S).1;omega);clear u n k I K V;have hv':(v:Int)<5:=by omega
  obtain⟨cur,D,A,E,x0,x1,x2,x3,F,hgl⟩:=iX o.out i hi;have a:=F (i*4);have b:=F (i*4+1);have c:=F (i*4+2);have d:=F (i*4+3);have t:=bA (Ud D A);clear D A F;go_wp2;refine bodyPost_ret (v:=.slice (some ⟨y,0,none⟩) l.length m) (by simp[results,results55,go_sem]) rfl ?_;have C:Below w.heap.size x (x.setCell ⟨y,i*4+2,none⟩ (.string s)):=(Below.refl _ _).setCell E _;exact⟨some ⟨y,0,none⟩,m,l.set i ⟨l[i].kind,l[i].n9,s,l[i].num⟩,by rw[Xb],by rw[Xb];omega,AZ Q.out i ⟨G.out.1,hs,G.out.2.2⟩,Ja ⟨y,0,_,_,rfl,E,t.out.1.set _ _,BS t.out.1 t.out.2 hi ⟨by omega,by omega⟩ fun h hs=>by
   obtain⟨a1,a2,a3,a4⟩:=h;rw[Wa]at a1 a2 a3 a4;refine⟨?_,?_,?_,?_⟩<;>simp[Bb]<;>first|assumption|omega|(simp_all;done)⟩,(L.out.1.below (C.mono W)).mono (by omega),L.out.2.below_to C⟩
 ·go_wp2_with fail;refine(cB B P (N+2) 2 H I.out.1 (by omega) (by omega) (by omega)).mono ?_;rintro e x ⟨v4,hv4,rfl,u,n⟩;have L:Hid (kB x B P (N+3)/\dB B w x):=⟨u,I.out.2.trans n⟩
  have o:Hid (x.ownsRow w.heap.size 31 4 (.slice (some ⟨y,0,none⟩) l.length m) l.length (dF l)):=(gA.but n).row k.out (fun q S e=>by have:=(k.out.lt q S).1;omega);clear u n k I;clear G hi hi';go_wp2;go_loopw [1] (fun out wr=>∃(p:List lC) (g5 U:Nat),out=.slice (some ⟨g5,0,none⟩) p.length U/\p.length<=501/\Hid (∀r∈p,sN r)/\Hid (kB wr B P (N+3)/\dB B w wr)/\Hid (wr.ownsRow w.heap.size 31 4 (.slice (some ⟨g5,0,none⟩) p.length U) p.length (dF p))/\w.heap.size<=wr.heap.size) (fun out _=>600-UI out)
  case atStart=>exact⟨l,y,m,rfl,by omega,Q.out,L.out,o.out,L.out.2.size⟩
  case round=>
   clear L o Q h1 h7;obtain⟨p,g5,U,rfl,hal,HG,K,J,hszr⟩:=hrel;by_cases hgo:(p.length:Int)<500+(v4:Int)
   ·go_wp2_with(at_builtin;refine cK rfl _ _ rfl underlying23 xV rfl (by omega) (by omega) (v:=.slice (some ⟨g5,0,none⟩) p.length U) rfl J.out rfl (by simp) rfl (by simp[Value.oneCell']) (by omega) hszr ?_;intro g6 cap6 w6 HO HT _);have hB6:Below w.heap.size wr w6:=HT.out.below hszr fun i hi e=>by omega
    have hle:(p++[(⟨2,⟨#[]⟩,⟨#[]⟩,1⟩:lC)]).length=p.length+1:=by simp
    have hO:=HO.out;rw[show dF p++(#[Value.int .i64 2,.string ⟨#[]⟩,.string ⟨#[]⟩,.int .i64 1]:Array Value).toList=dF (p++[(⟨2,⟨#[]⟩,⟨#[]⟩,1⟩:lC)]) by rw[PH];rfl,<-hle]at hO;exact⟨⟨p++[(⟨2,⟨#[]⟩,⟨#[]⟩,1⟩:lC)],g6,cap6,by rw[hle],by omega,PM HG.out ⟨by decide,by decide,⟨by simp only;omega,by simp only;omega⟩,⟨by simp only;omega,by simp only;omega⟩⟩,⟨K.out.1.below (hB6.mono W),K.out.2.below_to hB6⟩,hO,Ra hszr hB6.size⟩,by simp only[UI];omega⟩
   ·go_wp2;refine bodyPost_ret (v:=.slice (some ⟨g5,0,none⟩) p.length U) (by simp[results,results55,go_sem]) rfl ?_;exact⟨some ⟨g5,0,none⟩,U,p,rfl,by omega,HG.out,nK J.out,K.out.1.mono (by omega),K.out.2⟩
 ·go_wp2;refine bodyPost_ret (v:=.slice none 0 0) (by simp[results,results55,go_sem]) rfl ?_;exact⟨none,0,[],rfl,by simp,(fun r hr=>by cases hr),Ca rfl,I.out.1.mono (by omega),I.out.2⟩
