import Derived.Test.YtjpeimianeiegaaGreatDoorJ24
import Derived.Test.YtjpeimianeiegaaGreatDoorJ20
set_option maxRecDepth 100000
set_option maxHeartbeats 8000000
namespace Go.Proofs.YtjpeimianeiegaaGreatDoor
open Go.RowKit Tryz
def rO (a:List fA):List Value:=a.flatMap fun x=>[.string x.s,.int .i64 x.n]
theorem CT (a b:List fA):rO (a++b)=rO a++rO b:=by simp[rO]
theorem tX (r:Rd):qF r 0=([],r):=rfl
def aMz (B:Nat) (r:Rd) (w:World) (e:Ending) (a:World):Prop:=
 ((tL r).2.r9=false/\∃M b d c f,e=.returned (.agg #[.string (tL r).1.name,.int .i64 (tL r).1.l9,.slice b (tL r).1.m9.length d,.slice c (tL r).1.s9.length f])/\w.heap.size<=M/\aD a w.heap.size b (tL r).1.m9/\(∀g o,b=some ⟨g,o,none⟩->g<M)/\aD a M c (tL r).1.s9/\M<=a.heap.size/\RT a B (tL r).2/\eD B w a)\/
 ((tL r).2.r9=true/\e=.panicked yY/\eD B w a)
theorem aHd (B:Nat) (r:Rd) (w:World) (b:RT w B r) (d:r.rest.size<=1000000000):(gB 4 r).1<4294967296/\Calls prog 164 #[.pointer (some ⟨B,0,none⟩),.int .i64 4] w fun e a=>(e=.returned (.int .i64 ((gB 4 r).1:Nat))/\(gB 4 r).2.r9=false/\RT a B (gB 4 r).2/\eD B w a)\/(e=.panicked yY/\(gB 4 r).2.r9=true/\eD B w a):=by
 have h:=rM B r 4 w b (by omega) d;have c:(gB 4 r).1<4294967296:=dT 4 r;rw[pF (by omega)]at h;exact⟨c,h⟩
theorem lz {B k:Nat} {c:Rd} (p:c.rest.size<=1000000000) (i:(qF c k).2.r9=false):∃(n:ByteArray) (l:Int) (m d:Rd),Hid (∀W,RT W B (qF c k).2->Calls prog 181 #[.pointer (some ⟨B,0,none⟩),.int .i64 2] W fun e a=>(e=.returned (.string n)/\RT a B m/\eD B W a)\/(e=.panicked yY/\d.r9=true/\eD B W a))/\Hid (∀W,RT W B m->Calls prog 164 #[.pointer (some ⟨B,0,none⟩),.int .i64 8] W fun e a=>(e=.returned (.int .i64 l)/\d.r9=false/\RT a B d/\eD B W a)\/(e=.panicked yY/\d.r9=true/\eD B W a))/\Hid (rO (qF c (k+1)).1=rO (qF c k).1++[.string n,.int .i64 l])/\Hid ((qF c (k+1)).2=d)/\10*k<=1000000000:=by
 have b:=Ma (jR c k) p;have j:=Ma (kK 2 (qF c k).2).2 b;refine⟨(yA 2 (qF c k).2).1,_,_,_,fun W h=>(FL B _ 2 W h (by omega) b).mono ?_,fun W h=>rM B _ 8 W h (by omega) j,?_,?_,by have:=aCu i;omega⟩
 ·rintro e a (⟨f,-,g⟩|⟨f,g,o⟩)
  ·exact Ba ⟨f,g⟩
  ·exact Ea ⟨f,uD (k:=8) g,o⟩
 ·show _=_;rw[IP,CT,au];rfl
 ·show _=_;rw[IP,qV]
theorem oy (B:Nat) (r:Rd) (w:World) (hB:RT w B r) (hs:r.rest.size<=1000000000):
 Calls prog 165 #[.pointer (some ⟨B,0,none⟩)] w fun e w'=>aMz B r w e w':=by
 have m:B<w.heap.size:=by obtain⟨t,h⟩:=hB;exact aA h
 have G:Hid (TG w (w.alloc (.cells #[.string ⟨#[]⟩,.int .i64 0,.slice none 0 0,.slice none 0 0] 107)) B w.heap.size #[.string ⟨#[]⟩,.int .i64 0,.slice none 0 0,.slice none 0 0] 107 r):=⟨lA.new _ _ _,eD.of (cA _ _),hB.laterD (cA _ _)⟩
 have O:=bA (fun W h=>FL B r 1 W h (by omega) hs);have h1:=Ma (kK 1 r).2 hs;unfold aMz tL TZ LK FU LJ JE GC;clear hB hs;generalize yA 1 r=A at *;obtain⟨nm,r1⟩:=A;dsimp only at h1 O |-
 have P:=bA (fun W h=>rM B r1 8 W h (by omega) h1);have h2:=Ma (nN 8 r1) h1;have S2:=bA (fun(h:r1.r9=true)=>uD (k:=8) h);generalize gB 8 r1=A at *;obtain⟨L0,r2⟩:=A;dsimp only at h2 P S2 |-
 generalize zA L0=L at *;have Q:=bA (fun W h=>aHd B r2 W h h2);have hn1:(gB 4 r2).1<4294967296:=dT 4 r2;have h3:=Ma (nN 4 r2) h2;have S3:=bA (fun(h:r2.r9=true)=>uD (k:=4) h);generalize gB 4 r2=A at *;obtain⟨p,y⟩:=A;dsimp only at h3 hn1 Q S3 |-
 have S:=bA (fun W h=>aHd B (qF y p).2 W h (Ma (jR y p) h3));have hn2:(gB 4 (qF y p).2).1<4294967296:=dT 4 _;have h4:=Ma (nN 4 (qF y p).2) (Ma (jR y p) h3);have S4:=bA (fun(h:(qF y p).2.r9=true)=>uD (k:=4) h);generalize gB 4 (qF y p).2=A at *;obtain⟨J,c2⟩:=A;dsimp only at h4 hn2 S S4 |-
 have S5:=bA (fun k (hk:k<=J) h=>sV (r:=c2) (k:=k) h J hk);have S40:=bA (fun k (hk:k<=p) h=>S5.out 0 (Ha _) (S4.out (sV (r:=y) (k:=k) h p hk)));have d0:=bA (fun h=>S40.out 0 (Ha _) h);have V:=bA (fun h=>d0.out (S3.out h));have S10:=bA (fun h=>V.out (S2.out h));clear S2 S3 S4;go_enter func165,ntmps165;go_wp2_with fail;refine(O.out _ G.out.T).mono ?_;rintro e w1 (⟨rfl,-,H,l⟩|⟨rfl,d,l⟩);rotate_left
 ·exact⟨rfl,Ea ⟨S10.out d,rfl,G.out.N.trans l⟩⟩
 replace G:=bA (G.out.call H l m);clear H l O S10;go_wp2_with fail;refine(P.out _ G.out.T).mono ?_;rintro e w2 (⟨rfl,-,H,l⟩|⟨rfl,d,l⟩);rotate_left
 ·exact⟨rfl,Ea ⟨V.out d,rfl,G.out.N.trans l⟩⟩
 replace G:=bA (G.out.call H l m);clear H l P V;have hR1:=aA G.out.Z;have X:=bA (lA.new w2 #[.string nm,.int .i64 L,.slice none 0 0,.slice none 0 0] 107);replace G:=bA (G.out.alloc (.cells #[.string nm,.int .i64 L,.slice none 0 0,.slice none 0 0] 107));go_wp2_with fail;refine(Q.out _ G.out.T).2.mono ?_;rintro e w3 (⟨rfl,hs3,H,l⟩|⟨rfl,d,l⟩);rotate_left
 ·exact⟨rfl,Ea ⟨d0.out (by rw[tX];exact d),rfl,G.out.N.trans l⟩⟩
 replace G:=bA (G.out.call H l m);replace X:=bA (X.out.but l (by omega));have HS3:=bA hs3;clear H l Q d0 hs3;generalize w2.heap.size=R2 at *;go_wp2;go_loopw [11] (fun i wr=>∃(k:Nat) (v:Value),k<=p/\i=.int .i64 k/\Hid (TG w wr B w.heap.size #[.string ⟨#[]⟩,.int .i64 0,.slice none 0 0,.slice none 0 0] 107 (qF y k).2)/\Hid (lA wr R2 #[.string nm,.int .i64 L,v,.slice none 0 0] 107)/\Hid (wr.ownsRow (R2+1) 111 2 v k (rO (qF y k).1))/\Hid ((qF y k).2.r9=false)) (fun i _=>p-(intOf i).toNat)
 case atStart=>exact⟨0,_,Ha _,rfl,bA (by rw[tX];exact G.out),X.out,bA (by rw[tX];exact World.ownsRow_nil _ _ _ _),bA (by rw[tX];exact HS3.out)⟩
 case round=>
  clear G X HS3;obtain⟨k,v,hk,rfl,G,X,R,s⟩:=hrel;by_cases g0:k<p
  ·obtain⟨tx,nu,rA,rB,P1,P2,F1,K,hk10⟩:=lz (B:=B) h3 s.out;have D:Hid (rB.r9=true->(qF c2 J).2.r9=true):=bA (by rw[<-K.out];exact S40.out (k+1) g0);have hRw:=aA X.out;have c0:wr.cell? ⟨R2,2,none⟩=some v:=X.out.cell 2;clear s;go_wp2_with fail;go_region_law (first
    |((fail_if_success (have q:=a));refine zG (f:=181) (args:=#[.pointer (some ⟨B,0,none⟩),.int .i64 2]) rfl (by go_simp) ?_;refine(P1.out _ (G.out.T.laterD (Below.refl _ _).drew)).mono ?_;rintro e w1 (⟨rfl,a,u⟩|⟨rfl,d,u⟩);rotate_left;exact Ea ⟨_,rfl,rfl,Ea ⟨D.out d,rfl,G.out.N.trans ((mO (eD.refl B wr)).trans u)⟩⟩;have I:eD B wr w1:=(mO (eD.refl B wr)).trans u;have x1:=(X.out.but I (by omega)).cell 2;refine Ba ⟨_,rfl,?_⟩)
    |(have q:=a;clear q;(fail_if_success (have q:=b));refine zG (f:=164) (args:=#[.pointer (some ⟨B,0,none⟩),.int .i64 8]) rfl (by go_simp) ?_;refine(P2.out _ a).mono ?_;rintro e w4 (⟨rfl,sB,b,x⟩|⟨rfl,d,x⟩);rotate_left;exact Ea ⟨_,rfl,rfl,Ea ⟨D.out d,rfl,G.out.N.trans (I.trans x)⟩⟩;have F:eD B wr w4:=I.trans x;have E:=bA (X.out.but F (by omega));have x4:=E.out.cell 2;have x5:=(E.out.alloc (.cells #[.string tx,.int .i64 nu] 111)).cell 2;refine Ba ⟨_,rfl,?_⟩)
    |(have q:=b;clear q;refine uN (by rfl) _ _ (by rfl) underlying104 aR rfl (by omega) (by omega) (v:=v) (by rfl) ((gA.but F).row R.out (fun g z e=>by have:=(R.out.lt g z).1;omega)) (by rfl) (by rfl) rfl (by simp[Value.oneCell']) (by omega) (by have:=F.size;omega) ?_;intro gg cap w5 HO U _;have s5:=(U.out.blk E.out (fun e=>by omega)).cell 2;have c:=(U.out.blk E.out (fun e=>by omega)).free 2))
   all_goals
    obtain⟨y1,y2,y3⟩:=bL E.out U.out HO.out (De _) 2;go_wp2;exact⟨⟨k+1,_,by omega,by go_num,bA (by rw[K.out];exact(G.out.call b F m).turn y3 (fun j e=>by omega) m (Da _)),bA (by simpa using y1),bA (by rw[F1.out];exact y2),bA (by rw[K.out];exact sB)⟩,by simp[intOf];omega⟩
  ·obtain rfl:k=p:=by omega
   go_wp2_with fail;refine(S.out _ G.out.T).2.mono ?_;rintro e w5 (⟨rfl,hs5,H,l⟩|⟨rfl,d,l⟩);rotate_left
   ·exact⟨rfl,Ea ⟨S5.out 0 (Ha _) (by rw[tX];exact d),rfl,G.out.N.trans l⟩⟩
   have hRM:=aA X.out;have hv1:=fun g (z:v.ownBlock=some g)=>(R.out.lt g z).2;have hMw:=G.out.N.size;have hM5:=l.size;have Y:=bA ((gA.but l).row R.out (fun g z e=>by have:=(R.out.lt g z).1;omega));replace G:=bA (G.out.call H l m);replace X:=bA (X.out.but l (by omega));have HS5:=bA hs5;clear H l S s hs5 R;generalize wr.heap.size=M at *;obtain⟨p,rfl⟩:∃n,n=k:=⟨k,rfl⟩
   obtain⟨v1,rfl⟩:∃n,n=v:=⟨v,rfl⟩
   clear wr;go_wp2;go_loopw [26] (fun i wr=>∃(k:Nat) (v:Value),k<=J/\i=.int .i64 k/\Hid (TG w wr B w.heap.size #[.string ⟨#[]⟩,.int .i64 0,.slice none 0 0,.slice none 0 0] 107 (qF c2 k).2)/\Hid (lA wr R2 #[.string nm,.int .i64 L,v1,v] 107)/\Hid (wr.ownsRow M 113 2 v k (rO (qF c2 k).1))/\Hid ((qF c2 k).2.r9=false)/\Hid (wr.ownsRow (R2+1) 111 2 v1 p (rO (qF y p).1))/\M<=wr.heap.size) (fun i _=>J-(intOf i).toNat)
   case atStart=>exact⟨0,_,Ha _,rfl,bA (by rw[tX];exact G.out),X.out,bA (by rw[tX];exact World.ownsRow_nil _ _ _ _),bA (by rw[tX];exact HS5.out),Y.out,hM5⟩
   case round=>
    clear G X Y HS5;obtain⟨k,v,hk,rfl,G,X,R,s,Y,hM⟩:=hrel;by_cases g0:k<J
    ·obtain⟨tx,nu,rA,rB,P1,P2,F1,K,hk10⟩:=lz (B:=B) h4 s.out;have D:Hid (rB.r9=true->(qF c2 J).2.r9=true):=bA (by rw[<-K.out];exact S5.out (k+1) g0);have hRw:=aA X.out;have c0:wr.cell? ⟨R2,3,none⟩=some v:=X.out.cell 3;clear s;go_wp2_with fail;go_region_law (first
      |((fail_if_success (have q:=a));refine zG (f:=181) (args:=#[.pointer (some ⟨B,0,none⟩),.int .i64 2]) rfl (by go_simp) ?_;refine(P1.out _ (G.out.T.laterD (Below.refl _ _).drew)).mono ?_;rintro e w1 (⟨rfl,a,u⟩|⟨rfl,d,u⟩);rotate_left;exact Ea ⟨_,rfl,rfl,Ea ⟨D.out d,rfl,G.out.N.trans ((mO (eD.refl B wr)).trans u)⟩⟩;have I:eD B wr w1:=(mO (eD.refl B wr)).trans u;have x1:=(X.out.but I (by omega)).cell 3;refine Ba ⟨_,rfl,?_⟩)
      |(have q:=a;clear q;(fail_if_success (have q:=b));refine zG (f:=164) (args:=#[.pointer (some ⟨B,0,none⟩),.int .i64 8]) rfl (by go_simp) ?_;refine(P2.out _ a).mono ?_;rintro e w4 (⟨rfl,sB,b,x⟩|⟨rfl,d,x⟩);rotate_left;exact Ea ⟨_,rfl,rfl,Ea ⟨D.out d,rfl,G.out.N.trans (I.trans x)⟩⟩;have F:eD B wr w4:=I.trans x;have E:=bA (X.out.but F (by omega));have x4:=E.out.cell 3;have x5:=(E.out.alloc (.cells #[.string tx,.int .i64 nu] 113)).cell 3;refine Ba ⟨_,rfl,?_⟩)
      |(have q:=b;clear q;refine uN (by rfl) _ _ (by rfl) underlying105 wT rfl (by omega) (by omega) (v:=v) (by rfl) ((gA.but F).row R.out (fun g z e=>by have:=(R.out.lt g z).1;omega)) (by rfl) (by rfl) rfl (by simp[Value.oneCell']) (by omega) (by have:=F.size;omega) ?_;intro gg cap w5 HO U _;have s5:=(U.out.blk E.out (fun e=>by omega)).cell 3;have c:=(U.out.blk E.out (fun e=>by omega)).free 3))
     all_goals
      obtain⟨y1,y2,y3⟩:=bL E.out U.out HO.out hRM 3;go_wp2;exact⟨⟨k+1,_,by omega,by go_num,bA (by rw[K.out];exact(G.out.call b F m).turn y3 (fun j e=>by omega) m (Da _)),bA (by simpa using y1),bA (by rw[F1.out];exact y2),bA (by rw[K.out];exact sB),y3.row ((gA.but F).row Y.out (fun g z e=>by have:=(Y.out.lt g z).1;omega)) (fun g z e=>by have h1:=hv1 g z;have h2:=(Y.out.lt g z).1;omega),Ma hM (Ma F.size y3.size)⟩,by simp[intOf];omega⟩
    ·obtain rfl:k=J:=by omega
     obtain⟨sa,sc,rfl⟩:=uI R.out;obtain⟨ra,rc,rfl⟩:=uI Y.out;obtain⟨a0,a1,a2,a3⟩:=X.out.c4;obtain⟨b0,I,b2,b3⟩:=G.out.Z.c4;have e0:=G.out.Z.free;have hZ:=aA G.out.Z;go_wp2;have C:=fun x0 x1 x2 x3=>((((gA.refl (·=w.heap.size) wr).setCell (Ba rfl) 0 x0).setCell (Ba rfl) 1 x1).setCell (Ba rfl) 2 x2).setCell (Ba rfl) 3 x3;refine bodyPost_ret (v:=?_) (by simp[results,results165,go_sem,b0,I,b2,b3];rfl) rfl (Ba ⟨s.out,M,ra,rc,sa,sc,by rw[lS,lS],hMw,(pC (by rw[lS];exact(C _ _ _ _).row Y.out (fun q hq e=>by have:=(Y.out.lt q hq).1;omega))).mono (by omega),fun g o h=>hv1 g (by rw[h];rfl),pC (by rw[lS];exact(C _ _ _ _).row R.out (fun q hq e=>by have:=(R.out.lt q hq).1;omega)),?_,G.out.T.imp fun _ h=>(C _ _ _ _).blk h (by omega),G.out.N.upToD ((C _ _ _ _).below (by omega) fun q hq e=>by omega)⟩);exact Ma hM (C _ _ _ _).size
