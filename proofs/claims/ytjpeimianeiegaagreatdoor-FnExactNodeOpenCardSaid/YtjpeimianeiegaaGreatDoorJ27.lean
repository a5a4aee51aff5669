import Derived.Test.YtjpeimianeiegaaGreatDoorJ24
set_option maxRecDepth 100000
set_option maxHeartbeats 8000000
namespace Go.Proofs.YtjpeimianeiegaaGreatDoor
open Go.RowKit Tryz
theorem aw (r:Rd):xG r 0=([],r):=rfl
theorem QX (r:Rd):∀k,(xG r k).2.rest.size<=r.rest.size
 |0=>Da _
 |k+1=>by
  rw[tY,xX];exact Ma (gS 8 _) (Ma (kK 2 _).2 (Ma (kK 1 _).2 (Ma (gS 1 _) (QX r k))))
def pv (B:Nat) (s:ByteArray) (w:World) (e:Ending) (a:World):Prop:=
 ((lI s).2.r9=false/\∃c b,e=.returned (.agg #[.int .i64 (zA (qM s).1),.slice c (lI s).1.length b])/\sF a w.heap.size c (lI s).1/\RT a B (lI s).2/\eD B w a)\/
 ((lI s).2.r9=true/\e=.panicked yY/\eD B w a)
theorem aLw {B k:Nat} {c:Rd} (s:c.rest.size<=1000000000):∃(i:Nat) (o p:ByteArray) (j:Int) (l m n b:Rd),Hid (∀W,RT W B (xG c k).2->Calls prog 164 #[.pointer (some ⟨B,0,none⟩),.int .i64 1] W fun e a=>(e=.returned (.int .i64 (i:Nat))/\RT a B l/\eD B W a)\/(e=.panicked yY/\b.r9=true/\eD B W a))/\Hid (∀W,RT W B l->Calls prog 181 #[.pointer (some ⟨B,0,none⟩),.int .i64 1] W fun e a=>(e=.returned (.string o)/\RT a B m/\eD B W a)\/(e=.panicked yY/\b.r9=true/\eD B W a))/\Hid (∀W,RT W B m->Calls prog 181 #[.pointer (some ⟨B,0,none⟩),.int .i64 2] W fun e a=>(e=.returned (.string p)/\RT a B n/\eD B W a)\/(e=.panicked yY/\b.r9=true/\eD B W a))/\Hid (∀W,RT W B n->Calls prog 164 #[.pointer (some ⟨B,0,none⟩),.int .i64 8] W fun e a=>(e=.returned (.int .i64 j)/\b.r9=false/\RT a B b/\eD B W a)\/(e=.panicked yY/\b.r9=true/\eD B W a))/\Hid (CU (xG c (k+1)).1=CU (xG c k).1++[.int .i64 (i:Nat),.string o,.string p,.int .i64 j])/\Hid ((xG c (k+1)).2=b):=by
 have d:=Ma (QX c k) s;have f:=Ma (gS 1 (xG c k).2) d;have g:=Ma (kK 1 (gB 1 (xG c k).2).2).2 f;have r:=Ma (kK 2 (yA 1 (gB 1 (xG c k).2).2).2).2 g;refine⟨(gB 1 (xG c k).2).1,(yA 1 (gB 1 (xG c k).2).2).1,(yA 2 (yA 1 (gB 1 (xG c k).2).2).2).1,_,(gB 1 (xG c k).2).2,(yA 1 (gB 1 (xG c k).2).2).2,(yA 2 (yA 1 (gB 1 (xG c k).2).2).2).2,_,fun W h=>?_,fun W h=>(FL B _ 1 W h (by omega) f).mono ?_,fun W h=>(FL B _ 2 W h (by omega) g).mono ?_,fun W h=>rM B _ 8 W h (by omega) r,?_,?_⟩
 ·have q:=rM B _ 1 W h (by omega) d;have:(gB 1 (xG c k).2).1<256:=dT 1 _;rw[pF (by omega)]at q;exact q.mono fun e a h=>h.imp (fun h=>⟨h.1,h.2.2⟩) fun h=>⟨h.1,uD (k:=8) (uL (k:=2) (uL (k:=1) h.2.1)),h.2.2⟩
 ·exact fun e a h=>h.imp (fun h=>⟨h.1,h.2.2⟩) fun h=>⟨h.1,uD (k:=8) (uL (k:=2) h.2.1),h.2.2⟩
 ·exact fun e a h=>h.imp (fun h=>⟨h.1,h.2.2⟩) fun h=>⟨h.1,uD (k:=8) h.2.1,h.2.2⟩
 ·show _=_;rw[tY,QY];simp[CU]
 ·show _=_;rw[tY,xX]
theorem qd (B:Nat) (s:ByteArray) (w:World) (hB:RT w B ⟨s,false⟩) (hs:s.size<=1000000000):
 Calls prog 145 #[.pointer (some ⟨B,0,none⟩)] w fun e w'=>pv B s w e w':=by
 have y:B<w.heap.size:=by obtain⟨t,h⟩:=hB;exact aA h
 have G:Hid (TG w (w.alloc (.cells #[.int .i64 0,.slice none 0 0] 66)) B w.heap.size #[.int .i64 0,.slice none 0 0] 66 ⟨s,false⟩):=⟨lA.new _ _ _,eD.of (cA _ _),hB.laterD (cA _ _)⟩
 have z:=bA (fun W h=>rM B ⟨s,false⟩ 8 W h (by omega) hs);have h1:=Ma (gS 8 ⟨s,false⟩) hs;unfold pv lI gN qM;clear hB hs;generalize gB 8 ⟨s,false⟩=A at *;obtain⟨L0,J⟩:=A;dsimp only at h1 z |-
 generalize zA L0=L at *;have u:=bA (fun W h=>rM B J 2 W h (by omega) h1);have hn:(gB 2 J).1<65536:=dT 2 J;rw[pF (by omega)]at u;have h2:=Ma (gS 2 J) h1;have S2:=bA (fun(h:J.r9=true)=>uD (k:=2) h);generalize gB 2 J=A at *;obtain⟨n,c⟩:=A;dsimp only at h2 hn u S2 |-
 have S5:=bA (fun k (hk:k<=n) h=>IU (r:=c) (k:=k) h n hk);have S1:=bA (fun(h:c.r9=true)=>S5.out 0 (Ha _) (by rw[aw];exact h));rw[uX];go_enter func145,ntmps145;go_wp2_with fail;refine(z.out _ G.out.T).mono ?_;rintro e V (⟨rfl,-,Q,p⟩|⟨rfl,o,p⟩);rotate_left
 ·exact⟨rfl,Ea ⟨S1.out (S2.out o),rfl,G.out.N.trans p⟩⟩
 replace G:=bA (G.out.call Q p y);have hR1:=aA G.out.Z;have X:=bA (lA.new V #[.int .i64 L,.slice none 0 0] 66);replace G:=bA (G.out.alloc (.cells #[.int .i64 L,.slice none 0 0] 66));clear Q p z S2;go_wp2_with fail;refine(u.out _ G.out.T).mono ?_;rintro e w3 (⟨rfl,S,Q,p⟩|⟨rfl,o,p⟩);rotate_left
 ·exact⟨rfl,Ea ⟨S1.out o,rfl,G.out.N.trans p⟩⟩
 replace G:=bA (G.out.call Q p y);replace X:=bA (X.out.but p (by omega));have K:=bA S;clear Q p u S1 S;generalize V.heap.size=I at *;go_wp2;go_loopw [9] (fun i wr=>∃(k:Nat) (v:Value),k<=n/\i=.int .i64 k/\Hid (TG w wr B w.heap.size #[.int .i64 0,.slice none 0 0] 66 (xG c k).2)/\Hid (lA wr I #[.int .i64 L,v] 66)/\Hid (wr.ownsRow (I+1) 122 4 v k (CU (xG c k).1))/\Hid ((xG c k).2.r9=false)) (fun i _=>n-(intOf i).toNat)
 case atStart=>exact⟨0,_,Ha _,rfl,bA (by rw[aw];exact G.out),X.out,bA (by rw[aw];exact World.ownsRow_nil _ _ _ _),bA (by rw[aw];exact K.out)⟩
 case round=>
  clear G X K;obtain⟨k,v,hk,rfl,G,X,R,M⟩:=hrel;by_cases hlt:k<n
  ·obtain⟨ki,te,tx,nu,rA,rB,rC,rD,P1,P2,P3,P4,F1,Y⟩:=aLw (B:=B) (k:=k) h2;have x:Hid (rD.r9=true->(xG c n).2.r9=true):=bA (by rw[<-Y.out];exact S5.out (k+1) hlt);have hRw:=aA X.out;have c0:wr.cell? ⟨I,1,none⟩=some v:=X.out.cell 1;have XC:=bA (fun W (h:eD B wr W)=>(X.out.but h (show I≠B by omega)).cell 1);clear M;go_wp2_with fail;go_region_law (first
    |((fail_if_success (have q:=a));refine zG (f:=164) (args:=#[.pointer (some ⟨B,0,none⟩),.int .i64 1]) rfl (by go_simp) ?_;refine(P1.out _ (G.out.T.laterD (Below.refl _ _).drew)).mono ?_;rintro e V (⟨rfl,a,D⟩|⟨rfl,o,D⟩);rotate_left;exact Ea ⟨_,rfl,rfl,Ea ⟨x.out o,rfl,G.out.N.trans ((mO (eD.refl B wr)).trans D)⟩⟩;have P:eD B wr V:=(mO (eD.refl B wr)).trans D;have x1:=XC.out _ P;refine Ba ⟨_,rfl,?_⟩)
    |(have q:=a;clear q;(fail_if_success (have q:=b));refine zG (f:=181) (args:=#[.pointer (some ⟨B,0,none⟩),.int .i64 1]) rfl (by go_simp) ?_;refine(P2.out _ a).mono ?_;rintro e w2 (⟨rfl,b,E⟩|⟨rfl,o,E⟩);rotate_left;exact Ea ⟨_,rfl,rfl,Ea ⟨x.out o,rfl,G.out.N.trans (P.trans E)⟩⟩;have b2:eD B wr w2:=P.trans E;have x2:=XC.out _ b2;refine Ba ⟨_,rfl,?_⟩)
    |(have q:=b;clear q;(fail_if_success (have q:=d));refine zG (f:=181) (args:=#[.pointer (some ⟨B,0,none⟩),.int .i64 2]) rfl (by go_simp) ?_;refine(P3.out _ b).mono ?_;rintro e w3 (⟨rfl,d,F⟩|⟨rfl,o,F⟩);rotate_left;exact Ea ⟨_,rfl,rfl,Ea ⟨x.out o,rfl,G.out.N.trans (b2.trans F)⟩⟩;have b3:eD B wr w3:=b2.trans F;have x3:=XC.out _ b3;refine Ba ⟨_,rfl,?_⟩)
    |(have q:=d;clear q;(fail_if_success (have q:=l));refine zG (f:=164) (args:=#[.pointer (some ⟨B,0,none⟩),.int .i64 8]) rfl (by go_simp) ?_;refine(P4.out _ d).mono ?_;rintro e w4 (⟨rfl,sD,l,H⟩|⟨rfl,o,H⟩);rotate_left;exact Ea ⟨_,rfl,rfl,Ea ⟨x.out o,rfl,G.out.N.trans (b3.trans H)⟩⟩;have U:eD B wr w4:=b3.trans H;have O:=bA (X.out.but U (show I≠B by omega));have x4:=O.out.cell 1;have x5:=(O.out.alloc (.cells #[.int .i64 (ki:Nat),.string te,.string tx,.int .i64 nu] 122)).cell 1;refine Ba ⟨_,rfl,?_⟩)
    |(have q:=l;clear q;refine uN (by rfl) _ _ (by rfl) underlying64 ji rfl (by omega) (by omega) (v:=v) (by rfl) ((gA.but U).row R.out (fun g hg e=>by have:=(R.out.lt g hg).1;omega)) (by rfl) (by rfl) rfl (by simp[Value.oneCell']) (by omega) (by have:=U.size;omega) ?_;intro gg cap w5 HO HT _;have s5:=(HT.out.blk O.out (fun e=>by omega)).cell 1;have m:=(HT.out.blk O.out (fun e=>by omega)).free 1))
   all_goals
    obtain⟨y1,y2,y3⟩:=bL O.out HT.out HO.out (De _) 1;go_wp2;exact⟨⟨k+1,_,by omega,by go_num,bA (by rw[Y.out];exact(G.out.call l U y).turn y3 (fun j e=>by omega) y (Da _)),bA (by simpa using y1),bA (by rw[F1.out];exact y2),bA (by rw[Y.out];exact sD)⟩,by simp[intOf];omega⟩
  ·obtain rfl:k=n:=by omega
   obtain⟨ra,rc,rfl⟩:=uI R.out;obtain⟨a0,a1⟩:=X.out.c2;obtain⟨b0,P⟩:=G.out.Z.c2;have e0:=G.out.Z.free;have hZ:=aA G.out.Z;go_wp2;have C:=fun x0 x1=>((gA.refl (·=w.heap.size) wr).setCell (Ba rfl) 0 x0).setCell (Ba rfl) 1 x1;have hO:sF wr (I+1) ra (xG c k).1:=KT (by rw[uX];exact R.out);refine bodyPost_ret (v:=?_) (by simp[results,results145,go_sem,b0,P];rfl) rfl (Ba ⟨M.out,ra,rc,rfl,((hO.turn (C _ _) (fun g e=>by omega)).mono (by omega)),G.out.T.imp fun _ h=>(C _ _).blk h (by omega),G.out.N.upToD ((C _ _).below (by omega) fun q hq e=>by omega)⟩)
