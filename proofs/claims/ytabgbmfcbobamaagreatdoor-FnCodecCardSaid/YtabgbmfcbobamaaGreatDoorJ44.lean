import Derived.Test.YtabgbmfcbobamaaGreatDoorJ42
import Derived.Test.YtabgbmfcbobamaaGreatDoorJ35
set_option maxRecDepth 100000
set_option maxHeartbeats 8000000
namespace Go.Proofs.YtabgbmfcbobamaaGreatDoor
open Go.RowKit Tryz
structure QG (w W:World) (B R Q:Nat) (cs sh:Array Value) (r:Rd):Prop where
 Z:eA W w.heap.size #[.int .i64 0,.string ByteArray.empty,.string ByteArray.empty,.int .i64 0,.slice none 0 0] 44
 R:eA W R cs 44
 H:eA W Q sh 89
 T:RT W B r
 N:dB B w W
section
variable {w W W':World} {B R Q:Nat} {cs sh:Array Value} {r r':Rd}
theorem QG.call (h:QG w W B R Q cs sh r) (c:B<w.heap.size) (e:w.heap.size<R) (d:R<Q) (a:dB B W W') (b:RT W' B r'):QG w W' B R Q cs sh r':=
 ⟨h.Z.but a (by omega),h.R.but a (by omega),h.H.but a (by omega),b,h.N.trans a⟩
theorem QG.set (h:QG w W B R Q cs sh r) (c:B<w.heap.size) (b:w.heap.size<R) (d:R<Q) (i:Nat) (v:Value):QG w (W.setCell ⟨R,i,none⟩ v) B R Q (cs.setIfInBounds i v) sh r:=by
 have a:dB R W (W.setCell ⟨R,i,none⟩ v):=(dB.refl R W).setCell i v;exact⟨h.Z.but a (by omega),h.R.set i v,h.H.but a (by omega),h.T.imp fun _ h=>h.but a (by omega),h.N.upToD ((Below.refl _ _).setCell (by simpa using Xf b) v)⟩
end
def JE (B:Nat) (s:ByteArray) (w:World) (e:Ending) (b:World):Prop:=
 (((1<=(eJ s).1/\(eJ s).1<=6)/\(bP s).2.r9=false)/\∃c a,e=.returned (.agg #[.int .i64 ((eJ s).1:Nat),.string (rQ s).1,.string (mQ s).1,.int .i64 (bP s).1,.slice c (lO s).1.length a])/\tD b w.heap.size c (lO s).1/\dB B w b)\/
 (¬((1<=(eJ s).1/\(eJ s).1<=6)/\(bP s).2.r9=false)/\e=.panicked aM/\dB B w b)
theorem wy (B:Nat) (s:ByteArray) (w:World) (hB:RT w B ⟨s,false⟩) (hs:s.size<=1000000000) (hT:tN w) (hBG:0≠B):
 Calls prog 45 #[.pointer (some ⟨B,0,none⟩)] w fun e o=>JE B s w e o:=by
 have A:B<w.heap.size:=by obtain⟨t,h⟩:=hB;exact aA h
 have sM:(mQ s).2.r9=true->(bP s).2.r9=true:=fun h=>by rw[bP];split;exact bD h;exact h
 have sS:(lO s).2.r9=true->(bP s).2.r9=true:=fun h=>sM (by rw[mQ];split;exact wF h;exact h);have sT:(rQ s).2.r9=true->(bP s).2.r9=true:=fun h=>sS (by rw[lO];split;exact iQ (k:=0) (by rw[dJ,da];exact bD h) _ (La _);exact h);have sK:(eJ s).2.r9=true->(bP s).2.r9=true:=fun h=>sT (by rw[rQ];split;exact wF h;exact h);have zK:(eJ s).2.rest.size<=1000000000:=by rw[eJ];exact Ra (kN 1 _) hs
 have zT:(rQ s).2.rest.size<=1000000000:=by rw[rQ];split;exact Ra (yG 1 _).2 zK;exact zK
 have zS:(lO s).2.rest.size<=1000000000:=by rw[lO];split;exact Ra (kb _ _) (by rw[da];exact Ra (kN 2 _) zT);exact zT
 have zM:(mQ s).2.rest.size<=1000000000:=by rw[mQ];split;exact Ra (yG 2 _).2 zS;exact zS
 have hk:(eJ s).1<256:=by rw[eJ];exact nL 1 _
 have H0:=bA (fun W h=>pI B ⟨s,false⟩ 1 W h (by omega) hs);rw[show zA 1 ⟨s,false⟩=eJ s by rw[eJ],kD (by omega)]at H0;have A1:Hid (xQ ((eJ s).1:Nat)=true/\(∀W,RT W B (eJ s).2->Calls prog 60 #[.pointer (some ⟨B,0,none⟩),.int .i64 1] W fun e o=>(e=.returned (.string (rQ s).1)/\(rQ s).2.r9=false/\RT o B (rQ s).2/\dB B W o)\/(e=.panicked aM/\(bP s).2.r9=true/\dB B W o))\/xQ ((eJ s).1:Nat)=false/\(rQ s).1=ByteArray.empty/\(rQ s).2=(eJ s).2):=by
  by_cases h:xQ ((eJ s).1:Nat)=true
  ·have e:rQ s=oA 1 (eJ s).2:=by rw[rQ];exact Qa h
   exact Ca ⟨h,fun W P=>by rw[e]at sT |-;exact(cT B _ 1 W P (by omega) zK).mono fun e o q=>q.imp_right fun⟨a,b,c⟩=>⟨a,sT b,c⟩⟩
  ·have e:rQ s=(ByteArray.empty,(eJ s).2):=by rw[rQ];exact Oa h
   exact Ja ⟨by simpa using h,by rw[e],by rw[e]⟩
 have A2:Hid ((((eJ s).1:Nat):Int)=1/\(∀W,RT W B (rQ s).2->Calls prog 93 #[.pointer (some ⟨B,0,none⟩)] W fun e o=>(∃u n,e=.returned (.slice u (lO s).1.length n)/\(lO s).2.r9=false/\tD o W.heap.size u (lO s).1/\RT o B (lO s).2/\dB B W o)\/(e=.panicked aM/\(bP s).2.r9=true/\dB B W o))\/¬(((eJ s).1:Nat):Int)=1/\(lO s).1=[]/\(lO s).2=(rQ s).2):=by
  by_cases h:(eJ s).1=1
  ·have e:lO s=cy (rQ s).2:=by rw[lO,Qa h,da,cy,GO]
   exact Ca ⟨by omega,fun W P=>by rw[e]at sS |-;exact(VC B _ W P zT).mono fun e o q=>q.imp (fun⟨a,u,n,b,c⟩=>⟨u,n,b,a,c⟩) fun⟨a,b,c⟩=>⟨b,sS a,c⟩⟩
  ·have e:lO s=([],(rQ s).2):=by rw[lO];exact Oa h
   exact Ja ⟨by omega,by rw[e],by rw[e]⟩
 have A3:Hid (uQ ((eJ s).1:Nat)=true/\(∀W,RT W B (lO s).2->Calls prog 60 #[.pointer (some ⟨B,0,none⟩),.int .i64 2] W fun e o=>(e=.returned (.string (mQ s).1)/\(mQ s).2.r9=false/\RT o B (mQ s).2/\dB B W o)\/(e=.panicked aM/\(bP s).2.r9=true/\dB B W o))\/uQ ((eJ s).1:Nat)=false/\(mQ s).1=ByteArray.empty/\(mQ s).2=(lO s).2):=by
  by_cases h:uQ ((eJ s).1:Nat)=true
  ·have e:mQ s=oA 2 (lO s).2:=by rw[mQ];exact Qa h
   exact Ca ⟨h,fun W P=>by rw[e]at sM |-;exact(cT B _ 2 W P (by omega) zS).mono fun e o q=>q.imp_right fun⟨a,b,c⟩=>⟨a,sM b,c⟩⟩
  ·have e:mQ s=(ByteArray.empty,(lO s).2):=by rw[mQ];exact Oa h
   exact Ja ⟨by simpa using h,by rw[e],by rw[e]⟩
 have A4:Hid (fR ((eJ s).1:Nat)=true/\(∀W,RT W B (mQ s).2->Calls prog 59 #[.pointer (some ⟨B,0,none⟩),.int .i64 8] W fun e o=>(e=.returned (.int .i64 (bP s).1)/\(bP s).2.r9=false/\RT o B (bP s).2/\dB B W o)\/(e=.panicked aM/\(bP s).2.r9=true/\dB B W o))\/fR ((eJ s).1:Nat)=false/\(bP s).1=0/\(bP s).2=(mQ s).2):=by
  by_cases h:fR ((eJ s).1:Nat)=true
  ·have e:bP s=(jB (zA 8 (mQ s).2).1,(zA 8 (mQ s).2).2):=by rw[bP];exact Qa h
   exact Ca ⟨h,fun W P=>by rw[e];exact pI B _ 8 W P (by omega) zM⟩
  ·have e:bP s=(0,(mQ s).2):=by rw[bP];exact Oa h
   exact Ja ⟨by simpa using h,by rw[e],by rw[e]⟩
 have HOK:=bA (fun u n o (hk:1<=(eJ s).1/\(eJ s).1<=6) (h1:(bP s).2.r9=false) h2 h3=>show JE B s w (.returned (.agg #[.int .i64 ((eJ s).1:Nat),.string (rQ s).1,.string (mQ s).1,.int .i64 (bP s).1,.slice u (lO s).1.length n])) o from Ca ⟨⟨hk,h1⟩,u,n,rfl,h2,h3⟩);have J:=bA (fun o (h:(bP s).2.r9=true) h3=>show JE B s w (.panicked aM) o from Ja ⟨fun q=>absurd (q.2.symm.trans h) (by decide),rfl,h3⟩);have BAK:=bA (fun o (h:¬(1<=(eJ s).1/\(eJ s).1<=6)) h3=>show JE B s w (.panicked aM) o from Ja ⟨fun q=>h q.1,rfl,h3⟩);have SK:=bA sK;generalize JE B s w=Post at *;clear sM sS sT sK zK zT zS zM hs;generalize eJ s=X0 at *;generalize rQ s=X1 at *;generalize lO s=X2 at *;generalize mQ s=X3 at *;generalize bP s=X4 at *;obtain⟨k,r0⟩:=X0;obtain⟨T,r1⟩:=X1;obtain⟨S,r2⟩:=X2;obtain⟨M,r3⟩:=X3;obtain⟨N,r4⟩:=X4;dsimp only at *;have HB:=bA hB;have HT:=bA hT;clear hB hT;go_enter func45,ntmps45;go_wp2_with fail;refine(H0.out _ (HB.out.laterD (cA _ _))).mono ?_;rintro e w1 (⟨rfl,hs1,L,p⟩|⟨rfl,y,p⟩);rotate_left
 ·exact⟨rfl,J.out _ (SK.out y) ((dB.of (cA _ _)).trans p)⟩
 have b1:=(dB.of (cA w (.cells #[.int .i64 0,.string ByteArray.empty,.string ByteArray.empty,.int .i64 0,.slice none 0 0] 44))).trans p;have Z:=bA (eA.but (eA.new w #[.int .i64 0,.string ByteArray.empty,.string ByteArray.empty,.int .i64 0,.slice none 0 0] 44) p (by omega));have Y:=aA Z.out;go_wp2_with fail;refine(KP _ _).mono ?_;rintro e O ⟨rfl,K⟩;have X:=bA ((eA.new w1 #[.int .i64 k,.string ByteArray.empty,.string ByteArray.empty,.int .i64 0,.slice none 0 0] 44).later K);have N2:=b1.trans (dB.of (nA (cA _ _) K));by_cases h6:1<=k/\k<=6;rotate_left
 ·rw[Bc (by omega)];go_wp2_with fail;refine(nS _ _).mono ?_;rintro e I ⟨rfl,rfl⟩;exact⟨rfl,BAK.out _ h6 N2⟩
 rw[Zb (by omega)];go_wp2_with fail;refine(eX _ _).mono ?_;rintro e I ⟨rfl,hw⟩;replace hw:=hw.symm;subst hw;have t:=fun j hj=>(HT.out.but N2 hBG).2 k j (by omega) hj;have f:O.cell? ⟨0,k*5,none⟩=some (.bool (xQ k)):=t 0 (by omega);have g:O.cell? ⟨0,k*5+1,none⟩=some (.bool ((k:Int)==1)):=t 1 (by omega);have i:O.cell? ⟨0,k*5+2,none⟩=some (.bool (uQ k)):=t 2 (by omega);have l:O.cell? ⟨0,k*5+3,none⟩=some (.bool (fR k)):=t 3 (by omega);have m:O.cell? ⟨0,k*5+4,none⟩=some (.bool (qz k 4)):=t 4 (by omega);have x0:=X.out.cell 0;have U:=aA X.out;clear t;go_upto_region 4 with fail;have G:Hid (QG w (O.alloc (.cells #[.bool (xQ k),.bool ((k:Int)==1),.bool (uQ k),.bool (fR k),.bool (qz k 4)] 89)) B w1.heap.size O.heap.size #[.int .i64 k,.string ByteArray.empty,.string ByteArray.empty,.int .i64 0,.slice none 0 0] #[.bool (xQ k),.bool ((k:Int)==1),.bool (uQ k),.bool (fR k),.bool (qz k 4)] r0):=
  ⟨(Z.out.later (nA (cA _ _) K)).alloc _,X.out.alloc _,eA.new _ _ _,(L.laterD (nA (cA _ _) K)).laterD (cA _ _),N2.trans (dB.of (cA _ _))⟩
 have z:=bA hs1;clear f g i l m x0 X Z N2 b1 p K L hs1 H0 HB HT SK BAK hk;generalize O.alloc (.cells #[.bool (xQ k),.bool ((k:Int)==1),.bool (uQ k),.bool (fR k),.bool (qz k 4)] 89)=W at *;generalize O.heap.size=Q at *;generalize w1.heap.size=R at *;clear w1 O;generalize qz k 4=b5 at *;obtain⟨y0,y1,y2,y3,y4⟩:=G.out.H.c5;go_upto_if 18 with fail;go_cut [] (fun I=>QG w I B R Q #[.int .i64 k,.string T,.string ByteArray.empty,.int .i64 0,.slice none 0 0] #[.bool (xQ k),.bool ((k:Int)==1),.bool (uQ k),.bool (fR k),.bool b5] r1/\r1.r9=false)
 case first=>
  rcases A1.out with⟨D,C⟩|⟨D,rfl,rfl⟩
  ·rw[D]at y0 |-
   replace C:=bA C;go_wp2_with fail;refine(C.out _ G.out.T).mono ?_;rintro e x (⟨rfl,E,L,p⟩|⟨rfl,y,p⟩);rotate_left
   ·exact⟨rfl,J.out _ y (G.out.N.trans p)⟩
   replace G:=bA (G.out.call A Y U p L);have c0:=G.out.R.cell 1;have c1:=G.out.R.free 1;go_wp2;go_meet;exact⟨G.out.set A Y U 1 (.string T),E⟩
  ·rw[D]at y0 |-
   go_wp2;go_meet;exact⟨G.out,z.out⟩
 clear y0 y1 y2 y3 y4 G z A1 W;obtain⟨G,z⟩:=hcut;replace G:=bA G;replace z:=bA z;rename World=>W;obtain⟨y0,y1,y2,y3,y4⟩:=G.out.H.c5;have P:=aA G.out.H;go_upto_if 23 with fail;go_cut [] (fun I=>∃u n,QG w I B R Q #[.int .i64 k,.string T,.string ByteArray.empty,.int .i64 0,.slice u S.length n] #[.bool (xQ k),.bool ((k:Int)==1),.bool (uQ k),.bool (fR k),.bool b5] r2/\r2.r9=false/\tD I (Q+1) u S)
 case first=>
  rcases A2.out with⟨D,C⟩|⟨D,rfl,rfl⟩
  ·rw[Eg.2 D]at y1 |-
   replace C:=bA C;go_wp2_with fail;refine(C.out _ G.out.T).mono ?_;rintro e x (⟨u,n,rfl,E,ho,L,p⟩|⟨rfl,y,p⟩);rotate_left
   ·exact⟨rfl,J.out _ y (G.out.N.trans p)⟩
   replace G:=bA (G.out.call A Y U p L);have c0:=G.out.R.cell 4;have c1:=G.out.R.free 4;go_wp2;go_meet;exact⟨u,n,G.out.set A Y U 4 (.slice u S.length n),E,(ho.mono (by omega)).but ((dB.refl R x).setCell 4 _) (by omega)⟩
  ·rw[beq_false_of_ne D]at y1 |-
   go_wp2;go_meet;exact⟨none,0,G.out,z.out,Ca rfl⟩
 clear y0 y1 y2 y3 y4 G z A2 W P;obtain⟨u,n,G,z,F⟩:=hcut;replace G:=bA G;replace z:=bA z;replace F:=bA F;rename World=>W;obtain⟨y0,y1,y2,y3,y4⟩:=G.out.H.c5;go_upto_if 28 with fail;go_cut [] (fun I=>QG w I B R Q #[.int .i64 k,.string T,.string M,.int .i64 0,.slice u S.length n] #[.bool (xQ k),.bool ((k:Int)==1),.bool (uQ k),.bool (fR k),.bool b5] r3/\r3.r9=false/\tD I (Q+1) u S)
 case first=>
  rcases A3.out with⟨D,C⟩|⟨D,rfl,rfl⟩
  ·rw[D]at y2 |-
   replace C:=bA C;go_wp2_with fail;refine(C.out _ G.out.T).mono ?_;rintro e x (⟨rfl,E,L,p⟩|⟨rfl,y,p⟩);rotate_left
   ·exact⟨rfl,J.out _ y (G.out.N.trans p)⟩
   replace G:=bA (G.out.call A Y U p L);have c0:=G.out.R.cell 2;have c1:=G.out.R.free 2;go_wp2;go_meet;exact⟨G.out.set A Y U 2 (.string M),E,(F.out.but p (by omega)).but ((dB.refl R x).setCell 2 _) (by omega)⟩
  ·rw[D]at y2 |-
   go_wp2;go_meet;exact⟨G.out,z.out,F.out⟩
 clear y0 y1 y2 y3 y4 G z F A3 W;obtain⟨G,z,F⟩:=hcut;replace G:=bA G;replace z:=bA z;replace F:=bA F;rename World=>W;obtain⟨y0,y1,y2,y3,y4⟩:=G.out.H.c5;go_upto_if 33 with fail;go_cut [] (fun I=>QG w I B R Q #[.int .i64 k,.string T,.string M,.int .i64 N,.slice u S.length n] #[.bool (xQ k),.bool ((k:Int)==1),.bool (uQ k),.bool (fR k),.bool b5] r4/\r4.r9=false/\tD I (Q+1) u S)
 case first=>
  rcases A4.out with⟨D,C⟩|⟨D,rfl,rfl⟩
  ·rw[D]at y3 |-
   replace C:=bA C;go_wp2_with fail;refine(C.out _ G.out.T).mono ?_;rintro e x (⟨rfl,E,L,p⟩|⟨rfl,y,p⟩);rotate_left
   ·exact⟨rfl,J.out _ y (G.out.N.trans p)⟩
   replace G:=bA (G.out.call A Y U p L);have c0:=G.out.R.cell 3;have c1:=G.out.R.free 3;go_wp2;go_meet;exact⟨G.out.set A Y U 3 (.int .i64 N),E,(F.out.but p (by omega)).but ((dB.refl R x).setCell 3 _) (by omega)⟩
  ·rw[D]at y3 |-
   go_wp2;go_meet;exact⟨G.out,z.out,F.out⟩
 obtain⟨G,z,F⟩:=hcut;replace G:=bA G;rename World=>V;obtain⟨x0,x1,x2,x3,x4⟩:=G.out.R.c5;obtain⟨z0,z1,z2,z3,z4⟩:=G.out.Z.c5;have zf:=G.out.Z.free;go_wp2;have HTE:=fun a b c d e=>((((((gA.refl (·=w.heap.size) V).setCell (Ca rfl) 0 a).setCell (Ca rfl) 1 b).setCell (Ca rfl) 2 c).setCell (Ca rfl) 3 d).setCell (Ca rfl) 4 e)
 refine bodyPost_ret (v:=?_) (by simp[results,results45,go_sem,z0,z1,z2,z3,z4];rfl) rfl (HOK.out u n _ h6 z ((F.but ((((((dB.refl w.heap.size V).setCell 0 _).setCell 1 _).setCell 2 _).setCell 3 _).setCell 4 _) (by omega)).mono (by omega)) (G.out.N.upToD ((HTE _ _ _ _ _).below G.out.N.size fun q hq e=>by omega)))
theorem SH (c b d:Nat) (i j k l:Value) (u:TypeId) (h:Value) (a:List PanicEntry) (w:World) (m:w.cell? ⟨c,0,none⟩=some i) (n:w.cell? ⟨b,0,none⟩=some j) (o:w.cell? ⟨b,1,none⟩=some k) (p:w.cell? ⟨d,0,none⟩=some l) (y:w.frozen? ⟨c,0,none⟩=false) (z:w.frozen? ⟨b,0,none⟩=false) (A:w.frozen? ⟨b,1,none⟩=false) (B:w.frozen? ⟨d,0,none⟩=false) (q:¬b=c) (f:¬d=c) (g:¬d=b):
 CallsD prog 50 #[.pointer (some ⟨c,0,none⟩),.pointer (some ⟨b,0,none⟩),.pointer (some ⟨d,0,none⟩)] (.panicking ({ v:=.iface u h,recovered:=false}:: a)) w fun e s x=>
  e=.returned (.tuple #[])/\s=.panicking ({ v:=.iface u h,recovered:=true}:: a)/\x=(((w.setCell ⟨c,0,none⟩ (.int .i64 0)).setCell ⟨b,0,none⟩ (.int .i64 0)).setCell ⟨b,1,none⟩ (.slice none 0 0)).setCell ⟨d,0,none⟩ (.bool false):=by
 refine callsD_of_wpS func50 rfl fun C cs r=>?_;apply wpS_seq;apply wpS_region;simp[wpOpsS,go_sem,recoverD,r,ntmps50,Exit.thenS];refine wpS_cond (t:=true) (by simp[Act.eval,Array.replicate]) ?_;simp only[Ee];apply wpS_region;simp[wpOpsS,go_sem,m,n,o,p,y,z,A,B,bodyPostS,results,results50]
theorem WW (p q r:Value) (w:World):
 CallsD prog 50 #[p,q,r] .returning w fun e c d=>e=.returned (.tuple #[])/\c=.returning/\d=w:=by
 refine callsD_of_wpS func50 rfl fun a cs b=>?_;apply wpS_seq;apply wpS_region;simp[wpOpsS,go_sem,recoverD,b,ntmps50,Exit.thenS];refine wpS_cond (t:=false) (by simp[Act.eval,Array.replicate]) ?_;simp only[Pc,Se];refine wpS_of_wp (wp_skip ?_);cases a
 simp_all[bodyPostS,results,results50]
structure DS (w W:World) (c:vB) (l n:Int) (v:Value):Prop where
 C:eA W w.heap.size #[.int .i64 c.w,.int .i64 c.tl,.int .i64 c.ml,.int .i64 c.sh,.int .i64 c.ha,.int .i64 c.sg] 33
 L:eA W (w.heap.size+1) #[.int .i64 l] 3
 X:eA W (w.heap.size+1+1) #[.int .i64 n,v] 51
 Y:eA W (w.heap.size+1+1+1) #[.bool false] 4
 B:Below w.heap.size w W
theorem DS.turn {w W b:World} {S:Nat->Prop} {c:vB} {l n:Int} {v:Value} (h:DS w W c l n v) (a:gA S W b) (d:∀j,S j->w.heap.size+1+1+1<j):DS w b c l n v:=by
 have k:∀j,j<=w.heap.size+1+1+1->¬S j:=fun j f e=>by have:=d j e;omega
 exact⟨a.blk h.C (k _ (by omega)),a.blk h.L (k _ (by omega)),a.blk h.X (k _ (by omega)),a.blk h.Y (k _ (by omega)),h.B.trans (a.below h.B.size fun j f=>k j (by omega))⟩
theorem DS.new (w:World) (c:vB) (s:ByteArray):DS w (((((w.alloc (.cells #[.int .i64 c.w,.int .i64 c.tl,.int .i64 c.ml,.int .i64 c.sh,.int .i64 c.ha,.int .i64 c.sg] 33)).alloc (.cells #[.int .i64 0] 3)).alloc (.cells #[.int .i64 0,.slice none 0 0] 51)).alloc (.cells #[.bool false] 4)).alloc (.cells #[.string s,.bool false] 70)) c 0 0 (.slice none 0 0)/\RT (((((w.alloc (.cells #[.int .i64 c.w,.int .i64 c.tl,.int .i64 c.ml,.int .i64 c.sh,.int .i64 c.ha,.int .i64 c.sg] 33)).alloc (.cells #[.int .i64 0] 3)).alloc (.cells #[.int .i64 0,.slice none 0 0] 51)).alloc (.cells #[.bool false] 4)).alloc (.cells #[.string s,.bool false] 70)) (w.heap.size+1+1+1+1) ⟨s,false⟩:=by
 have a:=eA.new (w.alloc (.cells #[.int .i64 c.w,.int .i64 c.tl,.int .i64 c.ml,.int .i64 c.sh,.int .i64 c.ha,.int .i64 c.sg] 33)) #[.int .i64 0] 3;have b:=eA.new ((w.alloc (.cells #[.int .i64 c.w,.int .i64 c.tl,.int .i64 c.ml,.int .i64 c.sh,.int .i64 c.ha,.int .i64 c.sg] 33)).alloc (.cells #[.int .i64 0] 3)) #[.int .i64 0,.slice none 0 0] 51;have d:=eA.new (((w.alloc (.cells #[.int .i64 c.w,.int .i64 c.tl,.int .i64 c.ml,.int .i64 c.sh,.int .i64 c.ha,.int .i64 c.sg] 33)).alloc (.cells #[.int .i64 0] 3)).alloc (.cells #[.int .i64 0,.slice none 0 0] 51)) #[.bool false] 4;have e:=eA.new ((((w.alloc (.cells #[.int .i64 c.w,.int .i64 c.tl,.int .i64 c.ml,.int .i64 c.sh,.int .i64 c.ha,.int .i64 c.sg] 33)).alloc (.cells #[.int .i64 0] 3)).alloc (.cells #[.int .i64 0,.slice none 0 0] 51)).alloc (.cells #[.bool false] 4)) #[.string s,.bool false] 70;exact⟨⟨((((eA.new _ _ _).alloc _).alloc _).alloc _).alloc _,by simpa using ((a.alloc _).alloc _).alloc _,by simpa using (b.alloc _).alloc _,by simpa using d.alloc _,nA (nA (nA (nA (cA _ _) (cA _ _)) (cA _ _)) (cA _ _)) (cA _ _)⟩,⟨_,by simpa using e⟩⟩
theorem DS.set {w W:World} {c:vB} {l n l' n':Int} {v v':Value} (h:DS w W c l n v):DS w (((W.setCell ⟨w.heap.size+1,0,none⟩ (.int .i64 l')).setCell ⟨w.heap.size+1+1,0,none⟩ (.int .i64 n')).setCell ⟨w.heap.size+1+1,1,none⟩ v') c l' n' v':=by
 have a:=(gA.refl (·=w.heap.size+1) W).setCell (Ca rfl) 0 (.int .i64 l');have b:=fun V:World=>((gA.refl (·=w.heap.size+1+1) V).setCell (Ca rfl) 0 (.int .i64 n')).setCell (Ca rfl) 1 v';have f:=h.L.set 0 (.int .i64 l');have g:=((a.blk h.X (by omega)).set 0 (.int .i64 n')).set 1 v';have d:=h.B.size;exact⟨(b _).blk (a.blk h.C (by omega)) (by omega),(b _).blk (by simpa using f) (by omega),by simpa using g,(b _).blk (a.blk h.Y (by omega)) (by omega),(h.B.trans (a.below d fun j i e=>by omega)).trans ((b _).below (by simpa using d) fun j i e=>by omega)⟩
def IJ (c:vB) (s:ByteArray) (w:World) (e:Ending) (d:World):Prop:=
 ∃b a,e=.returned (.tuple #[.int .i64 (vR c s).1,.agg #[.int .i64 (vR c s).2.1,.slice b (vR c s).2.2.1.length a],.bool (vR c s).2.2.2])/\oC d w.heap.size b (vR c s).2.2.1/\Below w.heap.size w d
theorem BA (c:vB) (s:ByteArray) (w:World) (hs:s.size<=1048576) (hU:xI w):Calls prog 14 #[iD c,.string s] w fun e w'=>IJ c s w e w':=by
 have x:=bA (fun W B h=>dy B s W h (by omega));have HU:=bA hU;have N:=bA (DS.new w c s);have t:(aF s).2.r9=false->(iC (aF s).1).size<=1048576:=fun h=>by have:=aCb h;omega
 have H:=JU (aF s).1;have p:=an (aF s).1;have G:=bA (fun(A:(aF s).2.r9=false) W r n (h:oB W r (aF s).1)=>FM (jB (MU s).1) (jB (CE s).1) r n (aF s).1 W h (fun i V=>by
  obtain⟨a1,a2,a3,T,U⟩:=p i V;have:=t A;exact⟨by omega,by omega,by omega,fun j v=>by have:=T j v;omega,fun j v=>by have:=U j v;omega⟩) (by have:=t A;omega) (by have:=t A;omega))
 have R:=bA (fun(A:(aF s).2.r9=false) W r n (h:oB W r (aF s).1) (hu:xI W)=>NF c (jB (CE s).1) r n (aF s).1 1048576 W h (fun i V=>by
  obtain⟨a1,a2,a3,T,U⟩:=p i V;have:=t A;exact⟨by unfold maxLen;omega,fun j v=>by have:=T j v;omega,fun j v=>by have:=U j v;omega,by omega,by omega,by omega⟩) (by have:=t A;omega) hu)
 have hc:(aF s).2.r9=true/\vR c s=(0,0,[],false)\/(aF s).2.r9=false/\(((xE (jB (MU s).1) (jB (CE s).1) (aF s).1).toList==s.toList)=true/\(gB c (jB (CE s).1) (aF s).1=true/\vR c s=(jB (MU s).1,jB (CE s).1,(aF s).1,true)\/gB c (jB (CE s).1) (aF s).1=false/\vR c s=(0,0,[],false))\/((xE (jB (MU s).1) (jB (CE s).1) (aF s).1).toList==s.toList)=false/\vR c s=(0,0,[],false)):=by
  cases o:(aF s).2.r9 with
  |true=>exact Ca ⟨rfl,eb o⟩
  |false=>
   refine Ja ⟨rfl,?_⟩;by_cases u:xE (jB (MU s).1) (jB (CE s).1) (aF s).1=s
   ·refine Ca ⟨by simp[u],?_⟩;cases hok:gB c (jB (CE s).1) (aF s).1 with
    |true=>exact Ca ⟨rfl,jg o u hok⟩
    |false=>exact Ja ⟨rfl,zt hok⟩
   ·refine Ja ⟨Yc.2 fun h=>u (wK ?_),jh u⟩;simpa[ByteArray.toList_eq]using eq_of_beq h
 clear t H p hU;unfold dc at x;unfold IJ;unfold iD at *;generalize vR c s=D at *;generalize xE (jB (MU s).1) (jB (CE s).1) (aF s).1=EB at *;generalize gB c (jB (CE s).1) (aF s).1=SB at *;generalize jB (MU s).1=L at *;generalize jB (CE s).1=M at *;generalize (aF s).1=P at *;generalize (aF s).2=rz at *;rcases hc with⟨o,rfl⟩|⟨o,⟨h1,⟨rfl,rfl⟩|⟨rfl,rfl⟩⟩|⟨h1,rfl⟩⟩
 all_goals
  go_enter_defers func14,ntmps14;go_wp2_with fail;refine(x.out _ (w.heap.size+1+1+1+1) N.out.2).mono ?_;rintro e w1 (⟨I,r,n,rfl,ho,-,t⟩|⟨I,rfl,t⟩)
 all_goals first|exact absurd (I.symm.trans o) (by decide)|skip
 all_goals
  have X:=bA (N.out.1.turn (gA.but t) (fun j e=>by omega));clear t x N
 all_goals first
  |(have O:Hid (oC w1 (w.heap.size+1+1+1+1+1) r P):=bA (by simpa using ho)
    have y0:=X.out.L.cell 0
    obtain⟨y1,y2⟩:=X.out.X.c2
    have k:=X.out.L.free
    have l:=X.out.X.free
    clear ho
    go_wp2_with fail
    replace X:=bA (X.out.set (l':=L) (n':=M) (v':=.slice r P.length n))
    have ht:=(((gA.refl (·<w.heap.size+1+1+1) w1).setCell (g:=w.heap.size+1) (Ca (by omega)) 0 (.int .i64 L)).setCell (g:=w.heap.size+1+1) (Ca (by omega)) 0 (.int .i64 M)).setCell (g:=w.heap.size+1+1) (Ca (by omega)) 1 (.slice r P.length n)
    replace O:=bA (O.out.turned ht (fun g h _ e=>by omega))
    clear y0 y1 y2 k l ht
    generalize ((w1.setCell ⟨w.heap.size+1,0,none⟩ (.int .i64 L)).setCell ⟨w.heap.size+1+1,0,none⟩ (.int .i64 M)).setCell ⟨w.heap.size+1+1,1,none⟩ (.slice r P.length n)=W2 at *
    refine(G.out o _ _ _ O.out.tens).mono ?_
    rintro e w3 ⟨rfl,y⟩
    replace X:=bA (X.out.turn (S:=fun _=>False) (gA.of y) (fun j e=>e.elim))
    replace O:=bA (O.out.later y)
    obtain⟨g0,g1,g2,g3,g4,g5⟩:=X.out.C.c6
    obtain⟨E,F⟩:=X.out.X.c2
    clear y G
    go_wp2_with fail
    first
     |(go_at_call 52;refine(R.out o _ _ _ O.out.tens (HU.out.later X.out.B)).mono ?_;rintro e w5 ⟨rfl,z⟩;replace X:=bA (X.out.turn (S:=fun _=>False) (gA.of z) (fun j e=>e.elim));replace O:=bA (O.out.later z);clear z g0 g1 g2 g3 g4 g5 E F;obtain⟨E,F⟩:=X.out.X.c2;go_wp2_with fail)
     |skip
    have J:=X.out.L.cell 0
    have Q:=X.out.Y.cell 0
    have k:=X.out.L.free
    have l:=X.out.X.free
    have m:=X.out.Y.free)
  |skip
 rotate_left
 ·refine pD (eX _ _) ?_;go_wp2_with fail;go_region
  go_wp2;refine leaves_cons (f:=50) (args:=#[.pointer (some ⟨w.heap.size+1,0,none⟩),.pointer (some ⟨w.heap.size+1+1,0,none⟩),.pointer (some ⟨w.heap.size+1+1+1,0,none⟩)]) (by simp) (by simp[go_sem]) ?_;refine(WW _ _ _ _).mono ?_;rintro e u' Z ⟨rfl,rfl,rfl⟩;simp[Leaves,settle,results,results14,go_sem,J,E,F,Q];have K:=fun a b c d=>((((gA.refl (fun g=>w.heap.size<=g/\g<w.heap.size+1+1+1+1) w5).setCell (g:=w.heap.size+1) (Ca (by omega)) 0 a).setCell (g:=w.heap.size+1+1) (Ca (by omega)) 0 b).setCell (g:=w.heap.size+1+1) (Ca (by omega)) 1 c).setCell (g:=w.heap.size+1+1+1) (Ca (by omega)) 0 d;have hz:=X.out.B.size;first
   |exact⟨(O.out.turned (K _ _ _ _) (fun g h _ e=>by omega)).mono (by omega),X.out.B.trans ((K _ _ _ _).below hz fun j v e=>by omega)⟩
   |exact⟨(O.out.turned (K _ _ _ _).drew (fun g h _ e=>by omega)).mono (by omega),X.out.B.trans ((K _ _ _ _).drew.below hz fun j v e=>by omega)⟩
 all_goals first|(have q:=J;clear q;refine pD (nS _ _) ?_)|skip
 all_goals
  have J:=X.out.L.cell 0;obtain⟨E,F⟩:=X.out.X.c2;have Q:=X.out.Y.cell 0;refine leaves_cons (f:=50) (args:=#[.pointer (some ⟨w.heap.size+1,0,none⟩),.pointer (some ⟨w.heap.size+1+1,0,none⟩),.pointer (some ⟨w.heap.size+1+1+1,0,none⟩)]) (by simp) (by simp[go_sem]) ?_;refine(SH (w.heap.size+1) (w.heap.size+1+1) (w.heap.size+1+1+1) _ _ _ _ _ _ [] _ J E F Q (X.out.L.free 0) (X.out.X.free 0) (X.out.X.free 1) (X.out.Y.free 0) (by omega) (by omega) (by omega)).mono ?_;rintro e u' Z ⟨rfl,rfl,rfl⟩;simp[Leaves,settle,results,results14,go_sem,J,E,F,Q];exact⟨Ca rfl,(((X.out.B.setCell (by simp<;>omega) _).setCell (by simp<;>omega) _).setCell (by simp<;>omega) _).setCell (by simp<;>omega) _⟩
