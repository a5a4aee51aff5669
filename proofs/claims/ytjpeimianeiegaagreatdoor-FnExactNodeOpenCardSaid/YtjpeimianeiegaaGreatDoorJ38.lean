import Derived.Test.YtjpeimianeiegaaGreatDoorJ37
import Derived.Test.YtjpeimianeiegaaGreatDoorJ26
set_option maxRecDepth 100000
set_option maxHeartbeats 16000000
namespace Go.Proofs.YtjpeimianeiegaaGreatDoor
open Go.RowKit Tryz
theorem aDb {W:World} {B:Nat} {e:TypeId} {b:Nat} {v:Value} {n:Nat} {i:List Value} (h:W.ownsRow B e b v n i):∃a c,v=.slice a n c:=by
 rcases h.2 with⟨rfl,rfl⟩|⟨g,d,f,rfl,_⟩
 ·exact⟨none,0,rfl⟩
 ·exact⟨_,_,rfl⟩
theorem aEi {C:World->Prop} {w:World} {cs a:Array Value} {t b:TypeId} (k:∀W,Below w.heap.size w W->lA W w.heap.size cs t->lA W (w.heap.size+1) a b->W.heap.size=w.heap.size+1+1->C W):C ((w.alloc (.cells cs t)).alloc (.cells a b)):=
 k _ (pA (cA _ _) (cA _ _)) ((lA.new w _ _).alloc _) (by have:=lA.new (w.alloc (.cells cs t)) a b;simpa using this) (by simp)
theorem zt (W:World) (a:Option Addr) (m:Nat) (d:List dA) (x:iA W a d) (z:d.length<=2000000):
 ∃l c r,(Builtin.append_ #[28,28] 28 #[.slice (some ⟨W.heap.size,0,none⟩) 0 0,.slice a d.length m]).run prog (W.alloc (.cells #[] 98))=.ok (.slice l d.length c) r/\
  nO r W.heap.size l d/\Below W.heap.size W r/\∀g o,l=some ⟨g,o,none⟩->g<r.heap.size:=by
 obtain⟨i,y,s,t,v⟩:=tJ;cases a with
 |none=>
  have B:d=[]:=by
   rcases x with h|⟨b,o,e,_⟩
   ·exact h
   ·exact absurd e (by simp)
  subst B;refine⟨some ⟨W.heap.size,0,none⟩,0,W.alloc (.cells #[] 98),?_,Ba rfl,cA _ _,fun g o e=>by simp only[Ja,Addr.mk.injEq]at e;simp;omega⟩;simp[Builtin.append_,run_underlying underlying28,sizeOf,typeInfo,y,Builtin.lenOf,Builtin.firstCells,storeCells]
 |some w=>
  have p:=World.ownsRow_made W (e:=98) (size:=3) #[] 0 (Da _) (by simp[maxLen]) (by simp);have f:∀j u,(flat d)[j]?=some u->(W.alloc (.cells #[] 98)).cell? (w.add j)=some u:=by
   rcases x.later (cA W (.cells #[] 98)) with rfl|⟨b,o,e,_,h⟩
   ·intro j u h;simp[flat]at h
   ·simp only[Ja]at e;subst e;exact jM h
  obtain⟨I,A,F,q,C,_,_⟩:=run_append_own_at (P:=prog) (W.alloc (.cells #[] 98)) W.heap.size 28 28 98 i _ 3 40 underlying28 y s t v rfl (by omega) (.slice (some ⟨W.heap.size,0,none⟩) 0 0) 0 [] p w d.length m (flat d) (pD d) f (vE d) (by simp[maxLen];omega) (by omega) (by simp);simp only[Oa,Jb]at q;have n:Below W.heap.size W A:=(cA _ _).grown C (by simp) (fun k D=>by
   simp[Value.ownBlock]at D;omega)
  obtain⟨l,c,rfl⟩:=aDb q;exact⟨l,c,A,F,(by obtain⟨G,H,e,E⟩:=fK q;simp only[Value.slice.injEq]at e;obtain⟨rfl,_,_⟩:=e;exact E),n,fun g o e=>(q.lt g (by rw[e];rfl)).2⟩
theorem ry (a:Option Addr) (p:Nat) (K:kB) (w:World) (z:iA w a K.fs) (hl:K.fs.length<=1048576):
 Calls prog 17 #[.agg #[.slice a K.fs.length p,.int .i64 K.c,.int .i64 K.k,.int .i64 K.cr,.int .i64 K.fl,.bool K.dn]] w fun e q=>∃m h,e=.returned (.agg #[.slice m K.fs.length h,.int .i64 K.c,.int .i64 K.k,.int .i64 K.cr,.int .i64 K.fl,.bool K.dn])/\aH q (fun x=>w.heap.size<=x/\x<q.heap.size) m K.fs/\Below w.heap.size w q:=by
 go_enter func17,ntmps17;go_upto_region 1 with fail;refine aEi (C:=fun W=>Code.wp prog _ _ _ W) ?_;intro r i n t j;obtain⟨u,y,V,g,A,b,_⟩:=zt r a p K.fs (z.later i) (by omega);have l:=bA g;have d:=n.later b;have f:=t.later b;have J:=bA (A.toA (Da _));have s:=bA (pA i b);have q0:r.cell? ⟨w.heap.size,0,none⟩=some (.slice a K.fs.length p):=n.cell 0;have L:w.heap.size<r.heap.size:=by omega
 have O:=d.cell 0;have P:=d.cell 1;have Q:=d.cell 2;have R:=d.cell 3;have T:=d.cell 4;have U:=d.cell 5;have B:=f.cell 0;have D:=f.cell 1;have E:=f.cell 2;have F:=f.cell 3;have G:=f.cell 4;have H:=f.cell 5;simp only[Xb,Kb,Fa]at O P Q R T U B D E F G H;obtain⟨X,Y,Z,f3,f4,f5,_⟩:=d.frees;obtain⟨g0,g1,g2,g3,g4,g5,_⟩:=f.frees;have I:=bA j;clear i n t g A b d f z j;go_wp2_with(at_builtin;refine Lib.wpList_append_run _ rfl _ _ _ _ rfl _ _ rfl rfl _ _ l.out ?_);refine bodyPost_ret (v:=.agg #[.slice u K.fs.length y,.int .i64 K.c,.int .i64 K.k,.int .i64 K.cr,.int .i64 K.fl,.bool K.dn]) (by simp[results,results17,go_sem,B,D,E,F,G,H]) rfl ?_;refine gA.end2 (S:=fun x=>x=w.heap.size\/x=w.heap.size+1) (C:=fun W=>∃m h,Ending.returned (.agg #[.slice u K.fs.length y,.int .i64 K.c,.int .i64 K.k,.int .i64 K.cr,.int .i64 K.fl,.bool K.dn])=Ending.returned (.agg #[.slice m K.fs.length h,.int .i64 K.c,.int .i64 K.k,.int .i64 K.cr,.int .i64 K.fl,.bool K.dn])/\aH W (fun x=>w.heap.size<=x/\x<W.heap.size) m K.fs/\Below w.heap.size w W) V (by
  repeat (with_reducible first|exact gA.refl _ _|refine gA.setCell ?_ (Ba (by first|exact Ba rfl|exact Ea rfl)) _ _)) ?_
 intro w6 o;have N:=o.size;have j:=I.out;exact⟨_,_,rfl,(J.out.turned o (fun x M _ e=>by omega)).mono (fun x M=>by omega),s.out.trans (o.below (by have:=s.out.size;omega) (fun k hk e=>by omega))⟩
def pw (B:Nat) (s:ByteArray) (w:World) (e:Ending) (a:World):Prop:=
 ((oE s).2.r9=false/\∃c b,e=.returned (.tuple #[.int .i64 (zA (BO s).1),.agg #[.int .i64 (zA (yV s).1),.slice c (oE s).1.length b]])/\uC a w.heap.size c (oE s).1/\RT a B (oE s).2/\eD B w a)\/
 ((oE s).2.r9=true/\e=.panicked yY/\eD B w a)
theorem aMo {B k:Nat} {c:Rd} (m:c.rest.size<=1000000000) (f:(jJ c k).2.r9=false):∃(t:eA) (b:Rd),Hid (∀W,RT W B (jJ c k).2->Calls prog 165 #[.pointer (some ⟨B,0,none⟩)] W fun e a=>(b.r9=false/\∃M d j i l,e=.returned (.agg #[.string t.name,.int .i64 t.l9,.slice d t.m9.length j,.slice i t.s9.length l])/\W.heap.size<=M/\aD a W.heap.size d t.m9/\(∀g o,d=some ⟨g,o,none⟩->g<M)/\aD a M i t.s9/\M<=a.heap.size/\RT a B b/\eD B W a)\/(b.r9=true/\e=.panicked yY/\eD B W a))/\Hid ((jJ c (k+1)).1=(jJ c k).1++[t])/\Hid ((jJ c (k+1)).2=b)/\17*k<=1000000000:=
 ⟨_,_,fun W h=>oy B _ W h (Ma (aHu c k) m),bA (by rw[IQ]),bA (by rw[IQ]),by have:=aCw k f;omega⟩
theorem qk (B:Nat) (s:ByteArray) (w:World) (hB:RT w B ⟨s,false⟩) (hs:s.size<=1000000000):
 Calls prog 135 #[.pointer (some ⟨B,0,none⟩)] w fun e w'=>pw B s w e w':=by
 have m:B<w.heap.size:=by obtain⟨t,h⟩:=hB;exact aA h
 have G:Hid (TG w (w.alloc (.cells #[.int .i64 0,.slice none 0 0] 35)) B w.heap.size #[.int .i64 0,.slice none 0 0] 35 ⟨s,false⟩):=⟨lA.new _ _ _,eD.of (cA _ _),hB.laterD (cA _ _)⟩
 have u:=bA (fun W h=>JC B ⟨s,false⟩ 4 W h (by omega) hs);have h0:=Ma (eJ 4 ⟨s,false⟩).2.2 hs;unfold pw oE du yV BO zj;clear hB hs;generalize wB 4 ⟨s,false⟩=A at *;obtain⟨xx,r0⟩:=A;dsimp only at h0 u |-
 have x:=bA (fun W h=>rM B r0 8 W h (by omega) h0);have h1:=Ma (nN 8 r0) h0;generalize gB 8 r0=A at *;obtain⟨L0,r1⟩:=A;dsimp only at h1 x |-
 generalize zA L0=L at *;have y:=bA (fun W h=>rM B r1 8 W h (by omega) h1);have h2:=Ma (nN 8 r1) h1;have S1:=bA (fun(h:r1.r9=true)=>uD (k:=8) h);generalize gB 8 r1=A at *;obtain⟨N0,P⟩:=A;dsimp only at h2 y S1 |-
 generalize zA N0=N at *;have z:=bA (fun W h=>aHd B P W h h2);have hn:(gB 4 P).1<4294967296:=dT 4 P;have h3:=Ma (nN 4 P) h2;have S2:=bA (fun(h:P.r9=true)=>uD (k:=4) h);generalize gB 4 P=A at *;obtain⟨n,c⟩:=A;dsimp only at h3 hn z S2 |-
 have S5:=bA (fun k (hk:k<=n) h=>tV (r:=c) (k:=k) h n hk);have S3:=bA (fun(h:c.r9=true)=>S5.out 0 (Ha _) (by rw[sN];exact h));obtain⟨tB,hBB⟩:=G.out.T;clear hBB;go_enter func135,ntmps135;go_wp2_with fail;refine(u.out _ G.out.T).mono ?_;rintro e w1 ⟨rfl,p,d⟩;replace G:=bA (G.out.call p d m);clear p d u;go_wp2_with fail;refine(x.out _ G.out.T).mono ?_;rintro e w2 (⟨rfl,-,p,d⟩|⟨rfl,l,d⟩);rotate_left
 ·exact⟨rfl,Ea ⟨S3.out (S2.out (S1.out l)),rfl,G.out.N.trans d⟩⟩
 replace G:=bA (G.out.call p d m);clear p d x S1;go_wp2_with fail;refine(y.out _ G.out.T).mono ?_;rintro e w3 (⟨rfl,-,p,d⟩|⟨rfl,l,d⟩);rotate_left
 ·exact⟨rfl,Ea ⟨S3.out (S2.out l),rfl,G.out.N.trans d⟩⟩
 replace G:=bA (G.out.call p d m);clear p d y S2;have hR1:=aA G.out.Z;have X:=bA (lA.new w3 #[.int .i64 N,.slice none 0 0] 35);replace G:=bA (G.out.alloc (.cells #[.int .i64 N,.slice none 0 0] 35));go_wp2_with fail;refine(z.out _ G.out.T).2.mono ?_;rintro e w4 (⟨rfl,d0,p,d⟩|⟨rfl,l,d⟩);rotate_left
 ·exact⟨rfl,Ea ⟨S3.out l,rfl,G.out.N.trans d⟩⟩
 replace G:=bA (G.out.call p d m);replace X:=bA (X.out.but d (by omega));have Q:=bA d0;clear p d z S3 d0;generalize w3.heap.size=R at *;go_wp2;go_loopw [17] (fun i wr=>∃(k:Nat) (v:Value),k<=n/\i=.int .i64 k/\Hid (TG w wr B w.heap.size #[.int .i64 0,.slice none 0 0] 35 (jJ c k).2)/\Hid (lA wr R #[.int .i64 N,v] 35)/\Hid (pO wr (R+1) 107 v k (jJ c k).1)/\Hid ((jJ c k).2.r9=false)) (fun i _=>n-(intOf i).toNat)
 case atStart=>exact⟨0,_,Ha _,rfl,bA (by rw[sN];exact G.out),X.out,bA (by rw[sN];exact pO.nil _ _ _),bA (by rw[sN];exact Q.out)⟩
 case round=>
  clear G X Q;obtain⟨k,v,hk,rfl,G,X,HV,C⟩:=hrel;by_cases hlt:k<n
  ·obtain⟨t,rA,P1,F1,F2,hk17⟩:=aMo (B:=B) h3 C.out;have HTS:Hid (rA.r9=true->(jJ c n).2.r9=true):=bA (by rw[<-F2.out];exact S5.out (k+1) hlt);have o:=vX c k;obtain⟨T,ys,E,F,U,V⟩:=HV.out;have HY:=bA (⟨F,by rw[<-F,Ua]at o;exact o,U,V,E.lt⟩:_/\ys.length=k/\_/\_/\_);have HR:=bA E;have hRw:=aA X.out;have c0:wr.cell? ⟨R,1,none⟩=some v:=X.out.cell 1;clear C E F U V o;go_wp2_with fail;go_region_law (first
    |((fail_if_success (have q:=a));refine zG (f:=165) (args:=#[.pointer (some ⟨B,0,none⟩)]) rfl (by go_simp) ?_;refine(P1.out _ (G.out.T.laterD (Below.refl _ _).drew)).mono ?_;rintro e w4 (⟨sA,M,a1,d1,a2,d2,rfl,o1,o2,o3,o4,o5,a,H⟩|⟨l,rfl,H⟩);rotate_left;exact Ea ⟨_,rfl,rfl,Ea ⟨HTS.out l,rfl,G.out.N.trans ((mO (eD.refl B wr)).trans H)⟩⟩;have J:eD B wr w4:=(mO (eD.refl B wr)).trans H;have S:=bA (X.out.but J (show R≠B by omega));have x4:=S.out.cell 1;have x5:=(S.out.alloc (.cells #[.string t.name,.int .i64 t.l9,.slice a1 t.m9.length d1,.slice a2 t.s9.length d2] 107)).cell 1;have O:=bA (⟨o1,o2,o3,o4,o5⟩:_/\_/\_/\_/\_);clear o1 o2 o3 o4 o5;refine Ba ⟨_,rfl,?_⟩)
    |(have q:=a;clear q;refine uN (by rfl) _ _ (by rfl) underlying33 uJ rfl (by omega) (by omega) (v:=v) (by rfl) ((gA.but J).row HR.out (fun g K e=>by have:=(HR.out.lt g K).1;omega)) (by rfl) (by rfl) rfl (by simp[Value.oneCell']) (by omega) (by have:=J.size;omega) ?_;intro gg cap w5 HO HT HA;have s5:=(HT.out.blk S.out (fun e=>by omega)).cell 1;have b:=(HT.out.blk S.out (fun e=>by omega)).free 1))
   all_goals
    obtain⟨y1,y2,y3⟩:=bL S.out HT.out HO.out (De _) 1;have Y:=fun g (K:g<w4.heap.size) (h:R+1<=g) (I:v.ownBlock≠some g)=>y3.block g K (fun e=>e.elim (fun e=>by omega) fun e=>I e.2);obtain⟨v1,v2,v3,v4,v5⟩:=HY.out;have z4:=J.size;go_wp2;exact⟨⟨k+1,_,by omega,by go_num,bA (by rw[F2.out];exact(G.out.call a J m).turn y3 (fun j e=>by omega) m (Da _)),bA (by simpa using y1),bA (by
     rw[F1.out];exact pO.snoc (wr:=wr) (w4:=w4) (M:=M) (v:=v) (T:=T) (ys:=ys) y2 v1 v2 v3 v4 (by omega) O.out.1 (fun g K d I=>(Y g (by omega) d I).trans (J.block g K (by omega))) (fun g K hg4=>Y g hg4 (by omega) (fun e=>by have:=(v5 _ e).2;omega)) O.out.2.1 O.out.2.2.1 O.out.2.2.2.1 (HA.out.elim (fun h=>Ba ⟨h,(v5 _ h).2⟩) Ea) z4 O.out.2.2.2.2),bA (by rw[F2.out];exact sA)⟩,by simp[intOf];omega⟩
  ·obtain rfl:k=n:=by omega
   obtain⟨ra,rc,rfl⟩:=HV.out.row;obtain⟨a0,a1⟩:=X.out.c2;obtain⟨b0,b1⟩:=G.out.Z.c2;have e0:=G.out.Z.free;have hZ:=aA G.out.Z;go_wp2_with fail;go_region
   go_wp2;have D:=fun x0 x1=>(((gA.refl (·=w.heap.size) wr).setCell (Ba rfl) 0 x0).setCell (Ba rfl) 1 x1).drew;refine bodyPost_ret (v:=?_) (by simp[results,results135,go_sem,b0,b1];rfl) rfl (Ba ⟨C.out,ra,rc,by rw[vX],((HV.out.turn (D _ _) (fun g e=>by omega)).own (vX c k)).mono (by omega),G.out.T.imp fun _ h=>(D _ _).blk h (by omega),G.out.N.upToD ((D _ _).below (by omega) fun q hq e=>by omega)⟩)
section
open Go.Maps
theorem sn (l m:Nat) (a key:ByteArray) (c:nB) (b:Int) (B:Nat->Prop) (d:List eA) (M:Nat) (w:World) (h:yD w B l m c b d M) (hB:∀g,w.heap.size<=g->B g) (hU:dF w) (hn:a.size<=1048576) (hk:key.size<=1048576) (hM:1<=M) (hM2:M<=1000000000) (hsl:∀t∈d,t.s9.length<=1000000000) (hlv:∀t∈d,∀y∈t.s9,y.n<=b) (hlen:d.length<=1000000000):
 Calls prog 188 #[.pointer (some ⟨l,0,none⟩),.string a,.string key] w fun e w'=>e=.returned (.int .i64 ((eM c b d a key).2:Nat))/\yD w' B l m c b (eM c b d a key).1 (M+1)/\gA B w w':=by
 have HLA:=bA (h.mono (Be M));have HMT:Hid (Calls prog 216 #[.string key] w fun e w'=>e=.returned (.string (tC key))/\Below w.heap.size w w'):=fX key w (by omega) hU;have HT:Hid _:=fun W=>kN a W (by unfold maxLen;omega);have HS:Hid (eM c b d a key=if (kC a&&!(tC key).toList.isEmpty)=false then(d,5) else if (zB (·.s) key (dB d a).s9).isSome=true then(qA (·.name) (kI (dB d a) key b) d,1) else if (if (dB d a).l9 = -1 then c.tl else(dB d a).l9)<=((dB d a).s9.length:Nat)\/((zB (·.name) a d).isNone&&decide (10000<=d.length))=true then(d,3) else if aG (dB d a).m9 (tC key) c.ml<=(pH tC (dB d a).s9 (tC key):Nat) then(d,4) else(qA (·.name) (kI (dB d a) key b) d,2)):=rfl;have v:Hid _:=fun S x t M0 W f hnew hM0 hl=>vq x t key b S M0 W f hnew (by unfold maxLen;omega) (iQ key) hM0 hl;have e0:Hid _:=fun S x t M0 W hl f=>DQ l m x c b t S M0 (tC key) W hl f (iQ key);have b0:Hid _:=fun(W:World) (cm:Nat) (M0:Nat) (D:DataW Unit) (n:Nat) (hm:W.ownsMap prog 9 (plainElem prog 3) cm M0 D) (hc:D.atKey (kL (tC key)) (qG 0)=qG n)=>ks hm hc (iQ key);clear hU;generalize tC key=mk at *;generalize kC a=b1 at *;generalize eM c b d a key=R at *;go_enter func188,ntmps188;go_wp2_with fail;refine HMT.out.mono ?_;rintro e w1 ⟨rfl,hb1⟩;have A:=bA hb1;clear hb1 HMT;go_wp2_with fail;refine fC (HT.out _) ?_;clear HT;have o:(b1=false\/b1=true/\mk.toList.isEmpty=true)\/b1=true/\mk.toList.isEmpty=false:=by cases b1<;>cases mk.toList.isEmpty<;>simp
 rcases o with o|⟨rfl,h2⟩
 ·have k:Hid (R=(d,5)):=by show _=_;rw[HS.out,Ga (by rcases o with e|⟨_,e⟩<;>rw[e]<;>simp)]
  clear HS v e0 b0 h;rcases o with rfl|⟨rfl,h2⟩
  all_goals
   go_wp2;go_ret;exact⟨iC (by rw[k.out];rfl),by rw[k.out];exact HLA.out.later A.out,gA.of A.out⟩
 obtain⟨T,L,h,rfl⟩:=h;rw[h2]at HS;have H1:Hid _:=h.keep fun g hg _=>A.out.block g hg;have HF:=bA (ib l m a c b B T L M w1 H1.out (by unfold maxLen;omega));have HMB:Hid (B m/\B l):=⟨h.mB,h.lB⟩
 have HK:Hid (keyOf prog 9 (.string a)=some (kL a)):=sK (by unfold maxLen;omega);rw[Ua]at hlen;clear h;go_wp2_with fail;refine HF.out.mono ?_;intro e W hfo;obtain⟨x,N,th,t,S,rfl,F⟩:=aFo H1.out (fun g hg=>hB g (Ma A.out.size hg)) hfo;have H:Hid _:=pA A.out F.bw;have hnM:=F.nM;have r:Hid (R=if (zB (·.s) key t.s9).isSome=true then(qA (·.name) (kI t key b) (L.map (·.1)),1) else if (if t.l9 = -1 then c.tl else t.l9)<=(t.s9.length:Nat)\/((!th) &&decide (10000<=L.length))=true then(L.map (·.1),3) else if aG t.m9 mk c.ml<=(pH tC t.s9 mk:Nat) then(L.map (·.1),4) else(qA (·.name) (kI t key b) (L.map (·.1)),2)):=by show _=_;rw[HS.out,F.tn,F.no,Ua,Ca (by simp)]
 have hpl:t.s9.length<=1000000000:=by rcases F.mem with⟨e,_⟩|⟨e,_⟩;exact hsl _ e;rw[e];simp
 have HNW:Hid (∀y∈t.s9,y.n<=b):=by refine bA ?_;rcases F.mem with⟨e,_⟩|⟨e,_⟩;exact hlv _ e;rw[e];simp
 have HLB:=bA F.led.blk;have x6:W.cell? ⟨l,6,none⟩=some (.int .i64 b):=F.led.blk.cell 6;have c0:=bA (kj l m x c b t S N W F.led.blk F.ix);have V:=bA (OX l m c b B T L M W F.led);have HL0:Hid (∀J,Below W.heap.size W J->yD J B l m c b (L.map (·.1)) (M+1)):=fun J hb=>yD.mono ⟨T,L,F.led.keep fun g hg _=>hb.block g hg,rfl⟩ (Be M);have C:Hid _:=fun(y:oA W)=>e0.out _ x t N y.w' (F.led.blk.later y.h) (F.ix.later y.h);have u:=bA F;clear HF HS e0 hfo hsl hlv h2 F H1 HLA;obtain⟨lm,sm,cm,iv,Q,hs,D,f⟩:=u.out.ix;have Z:=bA f;have x2:W.cell? ⟨x,2,none⟩=some (.map (some sm)):=f.blk.cell 2;have l2:=f.s9.len underlying182 3;rw[fL,show Q.length=t.s9.length by rw[<-f.q1,Ua]]at l2;have Y:Hid (zB (·.s) key t.s9=(zB (fun q:fA×Nat=>q.1.s) key Q).map (·.1)):=by
  show _=_;rw[<-f.q1];exact eQ (key:=fun q:fA×Nat=>q.1.s) (key':=fun p:fA=>p.s) (fun q=>q.1) (fun _=>rfl) key Q
 have d0:=bA (aBr f.s9 (key:=key) (by unfold maxLen;omega));have d3:=oA.cells (show W.cell? ⟨x,3,none⟩=some (.map (some cm)) from f.blk.cell 3);have U:Hid (∀y:oA W,(Instr.lookup 181 (.map (some cm)) (.string mk) false).run prog y.w'=.ok (.int .i64 (pH tC t.s9 mk)) y.w'):=fun y=>by
  obtain⟨lm,sm,cm',iv,Q,hs,D,f⟩:=u.out.ix.later y.h;have h1:=f.blk.cell 3;rw[d3 y]at h1;cases h1
  exact b0.out _ cm _ D _ f.cnts (f.cnt mk)
 clear b0 f;rcases d0.out with⟨q,hq,E⟩|⟨hq,E⟩
 ·have k:Hid (R=(qA (·.name) (kI t key b) (L.map (·.1)),1)):=by show _=_;rw[r.out,Ga (by rw[Y.out,hq];rfl)]
  obtain⟨j,hqk⟩:=vT hq;have K:=Z.out.cells q j;have y1:W.cell? ⟨q.2,1,none⟩=some (.int .i64 q.1.n):=K.cell 1;have fy1:=K.free 1;have ht1:gA (·=q.2) W (W.setCell ⟨q.2,1,none⟩ (.int .i64 b)):=(gA.refl (·=q.2) W).setCell (Ba rfl) 1 _;have hin:=Z.out.seen j (HNW.out q.1 (by rw[<-Z.out.q1];exact Pc j)) ht1 (by have:=K.set 1 (.int .i64 b);simpa using this);rw[show q.1.s=key from hqk]at hin;have hts:gA S W (W.setCell ⟨q.2,1,none⟩ (.int .i64 b)):=ht1.mono fun i _ e=>by subst e;exact Z.out.sq q j
  have hth:th=true:=by
   rcases u.out.mem with⟨_,e⟩|⟨e,_⟩
   ·exact e
   ·rw[<-Z.out.q1]at e;rw[List.map_eq_nil_iff.1 e]at j;cases j
  have a0:=bA ((u.out.turn hth hts hin u.out.nm).mono (Be M));have g0:Hid _:=(gA.of H.out).trans' (hts.mono fun i _ e=>u.out.sB i e);clear K ht1 hin hts j hqk hq Z d0 l2;go_wp2;go_ret;exact⟨iC (by rw[k.out];rfl),by rw[k.out];exact a0.out,g0.out⟩
 have X:Hid (zB (·.s) key t.s9=none):=by show _=_;rw[Y.out,hq];rfl
 have z:Hid _:=fun J (hW:Below W.heap.size W J)=>v.out S x t N J (u.out.ix.later hW) X.out (by omega) hpl;rw[X.out]at r;clear v hq d0 Y X HNW Z;generalize (if t.l9 = -1 then c.tl else t.l9)=LM at *;generalize t.s9.length=NS at *;generalize decide (10000<=L.length)=fd at *;have h3:(LM<=(NS:Int)\/¬LM<=(NS:Int)/\th=false/\fd=true)\/¬LM<=(NS:Int)/\(th=true\/th=false/\fd=false):=by cases th<;>cases fd<;>simp<;>omega
 rcases h3 with h3|⟨hge,h3⟩
 ·have k:Hid (R=(L.map (·.1),3)):=by show _=_;rw[r.out,Ca (by simp),Ga (by rcases h3 with e|⟨_,e,e'⟩;exact Ba e;rw[e,e'];simp)]
  clear r U d3 C z;rcases h3 with hge|⟨hge,rfl,rfl⟩
  all_goals
   go_wp2_with fail;refine fC c0.out ?_;try (go_wp2_with fail;with_reducible refine fC V.out ?_)
   go_wp2;go_ret;exact⟨iC (by rw[k.out];rfl),by rw[k.out];exact HL0.out _ (Below.refl _ _),gA.of H.out⟩
 have I:Hid (R=if aG t.m9 mk c.ml<=(pH tC t.s9 mk:Nat) then(L.map (·.1),4) else(qA (·.name) (kI t key b) (L.map (·.1)),2)):=by show _=_;rw[r.out,Ca (by simp),Ca (by rintro(e|e);exact hge e;rcases h3 with h|⟨h,h'⟩;rw[h]at e;simp at e;rw[h']at e;simp at e)]
 clear r;have E:=U.out;have hnel:=oA.there W;clear U;generalize pH tC t.s9 mk=NC at *;generalize aG t.m9 mk c.ml=NL at *;rcases h3 with rfl|⟨rfl,rfl⟩
 all_goals
  go_wp2_with fail;refine fC c0.out ?_;try (go_wp2_with fail;with_reducible refine fC V.out ?_)
  clear c0 V l2 x2;go_wp2_with fail;refine jA (by kernel_rfl) (by kernel_rfl) ?_;repeat (go_big_quiet_step (first|(go_at_call 229;exact jB (C.out _))|fail))
  refine wpQuiet_nil ?_;rintro _ ⟨y,rfl⟩;have HY:Hid _:=y.h;clear E d3 hnel C x6;generalize y.w'=J at *;clear y;by_cases O:NL<=(NC:Int)
  ·have k:Hid (R=(L.map (·.1),4)):=by show _=_;rw[I.out,Ga O]
   clear I;go_wp2;go_ret;exact⟨iC (by rw[k.out];rfl),by rw[k.out];exact HL0.out _ HY.out,gA.of (pA H.out HY.out)⟩
  have k:Hid (R=(qA (·.name) (kI t key b) (L.map (·.1)),2)):=by show _=_;rw[I.out,Ca O]
  clear I;have x6:J.cell? ⟨l,6,none⟩=some (.int .i64 b):=(HLB.out.later HY.out).cell 6;go_wp2_with fail;refine(z.out J HY.out).mono ?_;rintro e w4 ⟨rfl,hi4,G⟩;have h2:=u.out.led.keep fun g hg _=>HY.out.block g hg;have HI4:=bA hi4;have HT4:=bA G;have HTW:Hid _:=((gA.of H.out).trans' (gA.of HY.out)).trans' (G.mono fun i _ e=>u.out.sB i e);have x7:w4.cell? ⟨l,7,none⟩=some (.map (some m)):=(G.blk h2.blk u.out.sl).cell 7;obtain⟨w6,run6,P,tn6⟩:=(G.map h2.ten u.out.sm).store vJ underlying144 (by unfold maxLen;omega) HK.out (rV x);have a0:=bA (u.out.put 1 HY.out HT4.out HI4.out u.out.nm (gA.mapped tn6) P);have g0:Hid _:=HTW.out.trans' ((gA.mapped tn6).mono fun i _ e=>(show i=m from e) ▸ HMB.out.1);clear P tn6 hi4 G z h2;go_wp2;go_ret;exact⟨iC (by rw[k.out];rfl),by rw[k.out];exact a0.out,g0.out⟩
theorem SZ (l m:Nat) (a b:ByteArray) (d:Int) (c:nB) (n:Int) (B:Nat->Prop) (j:List eA) (M:Nat) (w:World) (h:yD w B l m c n j M) (hB:∀g,w.heap.size<=g->B g) (hU:dF w) (hn:a.size<=1048576) (hm:b.size<=1048576) (a0:∀t∈j,t.m9.length<=1000000000) (Z:j.length<=1000000000):
 Calls prog 190 #[.pointer (some ⟨l,0,none⟩),.string a,.string b,.int .i64 d] w fun e w'=>e=.returned (.bool (oR j a b d).2)/\yD w' B l m c n (oR j a b d).1 M/\gA B w w':=by
 have P:=bA h;have HT:Hid _:=fun W=>kN a W (by unfold maxLen;omega);have HM:=bA (AP b w (by omega) hU);have Q:Hid _:=fun W=>eS d W;have HS:Hid (oR j a b d=if (kC a&&(b.toList.isEmpty||lE b) &&uA d (-1) 1000000)=false then(j,false) else if bE (jG (dB j a) b d)=true then(tD (·.name) a j,true) else if ((zB (·.name) a j).isNone&&decide (10000<=j.length))=true then(j,false) else(qA (·.name) (jG (dB j a) b d) j,true)):=rfl;have J:Hid (uA d (-1) 1000000=true->-1<=d/\d<=1000000):=fun h=>qK h;clear hU;generalize kC a=b1 at *;generalize (b.toList.isEmpty||lE b)=b2 at *;generalize uA d (-1) 1000000=b3 at *;generalize oR j a b d=R at *;have HR:Hid (∀W,(b1&&b2&&b3)=false->Below w.heap.size w W->(Ending.returned (.bool false)=.returned (.bool R.2))/\yD W B l m c n R.1 M/\gA B w W):=fun W h hb=>by
  rw[HS.out,Ga h];exact⟨rfl,P.out.later hb,gA.of hb⟩
 go_enter func190,ntmps190;go_wp2_with fail;refine fC (HT.out _) ?_;clear HT;cases b1
 ·go_wp2;go_ret;exact HR.out _ rfl (Below.refl _ _)
 go_wp2_with fail;refine HM.out.mono ?_;rintro e w2 ⟨rfl,V⟩;have o:=bA V;clear V HM;cases b2
 ·go_wp2;go_ret;exact HR.out _ rfl o.out
 go_wp2_with fail;refine fC (Q.out _) ?_;clear Q;cases b3
 ·go_wp2;go_ret;exact HR.out _ rfl o.out
 obtain⟨hl0,hl1⟩:=J.out rfl;obtain⟨T,L,h,rfl⟩:=h;have H2:Hid _:=h.keep fun g hg _=>o.out.block g hg;have HF:=bA (ib l m a c n B T L M w2 H2.out (by unfold maxLen;omega));have U:Hid (B m/\B l):=⟨h.mB,h.lB⟩
 have HK:Hid (keyOf prog 9 (.string a)=some (kL a)):=sK (by unfold maxLen;omega);rw[Ua]at Z;clear h HR;go_wp2_with fail;refine HF.out.mono ?_;intro e W Y;obtain⟨x,N,th,t,S,rfl,F⟩:=aFo H2.out (fun g hg=>hB g (Ma o.out.size hg)) Y;have u:=bA F;have HX:=bA (aJk x b d t S N W F.ix (by unfold maxLen;omega) hl0 hl1 (by rcases F.mem with⟨e,_⟩|⟨_,e⟩;exact a0 _ e;rw[e];simp));have k:Hid (R=if bE (jG t b d)=true then(tD (·.name) a (L.map (·.1)),true) else if ((!th) &&decide (10000<=L.length))=true then(L.map (·.1),false) else(qA (·.name) (jG t b d) (L.map (·.1)),true)):=by show _=_;rw[HS.out,F.tn,F.no,Ua,Ca (by simp)]
 have HN:Hid ((jG t b d).name=a):=by show _=_;rw[dU];exact F.nm
 have HBW:Hid _:=pA o.out F.bw;clear HF HS Y F H2 a0 J P;generalize jG t b d=t' at *;go_wp2_with fail;refine HX.out.mono ?_;rintro e I ⟨rfl,G,r⟩;have K:=bA G;have p:=bA r;have O:=bA (PA x t' S N I G);have y:=bA (r.map u.out.led.ten u.out.sm);have X:=r.blk u.out.led.blk u.out.sl;have x7:I.cell? ⟨l,7,none⟩=some (.map (some m)):=X.cell 7;have E:Hid (gA B w I):=(gA.of HBW.out).trans' (r.mono fun i _ e=>u.out.sB i e);clear G r HX X;go_wp2_with fail;refine fC O.out ?_;clear O;cases hidl:bE t'
 case true=>
  have z:Hid (R=(tD (·.name) a (L.map (·.1)),true)):=by show _=_;rw[k.out,Ga hidl]
  clear hidl k;go_wp2_with(at_delete;refine wpList_delete_own _ rfl _ _ 144 9 rfl 151 vJ underlying144 kD m _ _ rfl y.out _ _ rfl HK.out ?_;intro w6 q f);have C:=bA (u.out.del p.out (gA.mapped f) q);have D:Hid _:=E.out.trans' ((gA.mapped f).mono fun i _ e=>(show i=m from e) ▸ U.out.1);clear q f;go_ret;exact⟨kA (by rw[z.out]),by rw[z.out];exact C.out,D.out⟩
 by_cases s:((!th) &&decide (10000<=L.length))=true
 ·have z:Hid (R=(L.map (·.1),false)):=by show _=_;rw[k.out,Ca (by rw[hidl];simp),Ga s]
  simp only[Na,Bool.not_eq_true']at s;have HL:=bA (u.out.kp s.1 p.out);have v:=bA (OX l m c n B T L M I HL.out);rw[s.2]at v;rw[s.1];clear hidl k s;go_wp2_with fail;refine fC v.out ?_;go_wp2;go_ret;exact⟨kA (by rw[z.out]),by rw[z.out];exact⟨T,L,HL.out,rfl⟩,E.out⟩
 have z:Hid (R=(qA (·.name) t' (L.map (·.1)),true)):=by show _=_;rw[k.out,Ca (by rw[hidl];simp),Ca s]
 have v:Hid (th=false->Calls prog 228 #[.pointer (some ⟨l,0,none⟩)] I fun e w'=>e=.returned (.bool false)/\w'=I):=fun e=>by
  have:=OX l m c n B T L M I (u.out.kp e p.out);rwa [show decide (10000<=L.length)=false by rw[e]at s;simpa using s]at this
 obtain⟨w6,run6,A,H⟩:=y.out.store vJ underlying144 (by unfold maxLen;omega) HK.out (rV x);have C:=bA (u.out.put 0 (Below.refl _ _) p.out (K.out.keep fun g _ hs=>⟨rfl,Ba hs⟩) HN.out (gA.mapped H) A);have D:Hid _:=E.out.trans' ((gA.mapped H).mono fun i _ e=>(show i=m from e) ▸ U.out.1);clear A H hidl k s K p u;cases th
 all_goals
  try (go_wp2_with fail;with_reducible refine fC (v.out trivial) ?_)
  go_wp2;go_ret;exact⟨kA (by rw[z.out]),by rw[z.out];exact C.out,D.out⟩
end
section
open Go.Maps
theorem aAj (p q:Value) (w:World):(Instr.field 320 (.agg #[p,q]) 0).run prog w=.ok p w:=by kernel_rfl
def pz (S:Nat->Prop) (x:Nat) (t:eA) (M:Nat) (u:Int) (wr:World) (n:Nat):Prop:=
 ∃a e f c d Q b D,qP wr S x ⟨t.name,t.l9,t.m9,a⟩ M e f c d Q b D/\a.filter (fun p=>decide (u<p.n))=t.s9.filter (fun p=>decide (u<p.n))/\(∀p∈a,p∈t.s9)/\a.length<=t.s9.length/\b.countP (fun s=>decide (s.t<=u))=n
theorem AX {R:Nat->Prop} (h:∃n,R n):R (Classical.epsilon fun m=>R m/\∀k,R k->m<=k)/\∀k,R k->(Classical.epsilon fun m=>R m/\∀k,R k->m<=k)<=k:=Classical.epsilon_spec (aGk h)
theorem aGl {R a:Nat->Prop} {n:Nat} (h:a n) (b:n<Classical.epsilon fun m=>R m/\∀k,R k->m<=k):(Classical.epsilon fun m=>a m/\∀k,a k->m<=k)<Classical.epsilon fun m=>R m/\∀k,R k->m<=k:=
 Nat.lt_of_le_of_lt ((AX ⟨n,h⟩).2 n h) b
theorem aFl {w:World} {S:Nat->Prop} {x:Nat} {t:eA} {M m o j:Nat} {l:Value} {Q:List (fA×Nat)} {b:List gG} {D:DataW Unit} {i:List fA} {u d c:Int} (h:qP w S x ⟨t.name,t.l9,t.m9,i⟩ M m o j l Q b D) (C:u=c-d) (A:i.filter (fun p=>decide (u<p.n))=t.s9.filter (fun p=>decide (u<p.n))) (f:¬(0<b.length/\(hget b 0).t<=u)):
 lC w S x (xD d c t) M:=by
 have y:∀p∈i,u<p.n:=fun p B=>by
  have g:p∈Q.map (·.1):=by rw[h.q1];exact B
  obtain⟨q,k,rfl⟩:=Uc.1 g;have z:=h.perm.mem_iff.2 (Pc k);obtain⟨s,a,e⟩:=Uc.1 z;have E:=h.early s a q k e.symm;have F:=aPd h.heap a;have v:=List.length_pos_of_mem a;have G:¬(hget b 0).t<=u:=fun r=>f ⟨v,r⟩;omega
 rw[aBg C A y];exact⟨m,o,j,l,Q,b,D,h⟩
theorem aKh {w E v:World} {S:Nat->Prop} {x:Nat} {t:eA} {M z r i n:Nat} {C l:Value} {Q:List (fA×Nat)} {g:List gG} {D:DataW Unit} {a:List fA} {u:Int} {q:fA×Nat} {c:Nat} (h:qP w S x ⟨t.name,t.l9,t.m9,a⟩ M z r i C Q g D) (N:a.filter (fun p=>decide (u<p.n))=t.s9.filter (fun p=>decide (u<p.n))) (j:∀p∈a,p∈t.s9) (O:a.length<=t.s9.length)
 (A:0<g.length) (R:(hget g 0).t<=u) (B:q∈Q) (K:q.2=(hget g 0).b) (U:q.1.n<=u) (P:NB w E x t.l9 z r i C l g) (T:gA (fun k=>k=r\/k=i) E v) (m:v.ownsMap prog 9 kD r n (DataW.del (oC (Q.map fun q=>(q.1.s,eE q.2))) (kL q.1.s)))
 (o:v.ownsMap prog 9 (plainElem prog 3) i M (D.put (kL (tC q.1.s)) (qG c))) (L:pH tC a (tC q.1.s)=c+1):
 (∃k,pz S x t M u v k/\k<g.countP (fun s=>decide (s.t<=u)))/\gA S w v:=by
 obtain⟨I,J⟩:=h.dropped (c:=c) A B K P T m o L;refine⟨⟨_,⟨_,z,r,i,l,_,_,_,I,?_,fun p d=>j p (gQ.1 d).1,?_,rfl⟩,?_⟩,J⟩
 ·rw[<-N];unfold tD;rw[List.filter_filter];apply List.filter_congr;intro p d;by_cases e:p.s=q.1.s
  ·have y:q.1∈a:=by have:=Pc (f:=(·.1)) B;rw[h.q1]at this;exact this
   have F:=cK h.rs d;have G:=cK h.rs y;have:p=q.1:=by
    have H:some p=some q.1:=by rw[<-F,<-G];show zB (fun p:fA=>p.s) p.s a=zB (fun p:fA=>p.s) q.1.s a;rw[e]
    exact Qc H
   rw[this,Mb (by omega)];simp
  ·rw[mC e];simp
 ·have:(tD (·.s) q.1.s a).length<=a.length:=Tb _ _;exact Ma this O
 ·have:=kh h.heap A R;omega
theorem aFk {w z i:World} {S:Nat->Prop} {x:Nat} {t:eA} {M m o l:Nat} {A c:Value} {Q:List (fA×Nat)} {a:List gG} {D:DataW Unit} {j:List fA} {u:Int} {q:fA×Nat} {g d B:Nat} (h:qP w S x ⟨t.name,t.l9,t.m9,j⟩ M m o l A Q a D) (J:j.filter (fun p=>decide (u<p.n))=t.s9.filter (fun p=>decide (u<p.n))) (f:∀p∈j,p∈t.s9) (K:j.length<=t.s9.length)
 (r:0<a.length) (O:(hget a 0).t<=u) (N:q∈Q) (I:q.2=(hget a 0).b) (G:u<q.1.n) (L:NB w z x t.l9 m o l A c a)
 (v:lA i x #[.int .i64 t.l9,.map (some m),.map (some o),.map (some l),.slice (some ⟨g,0,none⟩) ((zM a).length+1) d] 187)
 (y:i.ownsRow 0 320 2 (.slice (some ⟨g,0,none⟩) ((zM a).length+1) d) ((zM a).length+1) (mI (pP (zM a) ⟨q.2,q.1.n⟩))) (e:c.ownBlock=some g\/z.heap.size<=g) (P:gA (fun k=>k=x\/c.ownBlock=some k) z i) (F:B<=w.heap.size) (H:∀g,B<=g->w.heap.size<=g->S g):
 (∃k,pz S x t M u i k/\k<a.countP (fun s=>decide (s.t<=u)))/\gA S w i:=by
 obtain⟨C,E⟩:=h.again r N I L v y e P F H;refine⟨⟨_,⟨j,m,o,l,_,_,_,_,C,J,f,K,rfl⟩,?_⟩,E⟩;have R:=kh h.heap r O;rw[aBn (qN h.heap r).1 (by exact G)];omega
theorem qv (x:Nat) (t:eA) (J I u:Int) (S:Nat->Prop) (M:Nat) (w0 w:World) (h:lC w S x t M) (r:Below w0.heap.size w0 w) (hU:dF w0) (hS:∀g,S g->w0.heap.size<=g) (hu:u=I-J) (hl:t.s9.length<=1000000000) (hM:M<=1000000000) (hk:∀p∈t.s9,p.s.size<=1000000000):
 Calls prog 230 #[.pointer (some ⟨x,0,none⟩),.int .i64 u] w fun e o=>e=.returned (.tuple #[])/\lC o (fun g=>S g\/w.heap.size<=g) x (xD J I t) M/\gA S w o:=by
 have HST:Hid (pz (fun g=>S g\/w.heap.size<=g) x t M u w ((Classical.epsilon fun m=>pz (fun g=>S g\/w.heap.size<=g) x t M u w m/\∀k,pz (fun g=>S g\/w.heap.size<=g) x t M u w k->m<=k))):=by
  refine(AX ?_).1;obtain⟨lm,U,K,iv,Q,i,D,h⟩:=h;exact⟨_,t.s9,lm,U,K,iv,Q,i,D,h.keep fun g _ i=>⟨rfl,Ba i⟩,rfl,fun p hp=>hp,Da _,rfl⟩
 have HUT:Hid (∀W,gA S w W->dF W):=fun W hW=>hU.later (r.trans (hW.below r.size fun k hk i=>by have:=hS k i;omega));have HKS:Hid _:=hk;have HEU:Hid _:=hu;have HLX:Hid _:=hl;clear h r hU hS hk hu hl;go_enter func230,ntmps230;go_wp2;go_loopw [4] (fun _ wr=>Hid (∃n,pz (fun g=>S g\/w.heap.size<=g) x t M u wr n)/\Hid (gA S w wr)) (fun _ wr=>Classical.epsilon fun m=>pz (fun g=>S g\/w.heap.size<=g) x t M u wr m/\∀k,pz (fun g=>S g\/w.heap.size<=g) x t M u wr k->m<=k)
 case atStart=>exact⟨⟨_,HST.out⟩,gA.refl _ _⟩
 case round=>
  obtain⟨HN,Y⟩:=hrel;obtain⟨hsp,_⟩:=AX HN.out;have HLT:Hid (∀W k,pz (fun g=>S g\/w.heap.size<=g) x t M u W k->k<(Classical.epsilon fun m=>pz (fun g=>S g\/w.heap.size<=g) x t M u wr m/\∀k,pz (fun g=>S g\/w.heap.size<=g) x t M u wr k->m<=k)->(Classical.epsilon fun m=>pz (fun g=>S g\/w.heap.size<=g) x t M u W m/\∀k,pz (fun g=>S g\/w.heap.size<=g) x t M u W k->m<=k)<(Classical.epsilon fun m=>pz (fun g=>S g\/w.heap.size<=g) x t M u wr m/\∀k,pz (fun g=>S g\/w.heap.size<=g) x t M u wr k->m<=k)):=fun W k h1 h2=>aGl h1 h2;obtain⟨xs,lm,U,K,iv,Q,i,D,d,hf,P,N,L⟩:=hsp;have HI:=bA d;have HF:=bA hf;have X:=bA P;have F:=bA N;have HCN:=bA L;have hwr:=Y.out.size;clear HST hf P N L HN;by_cases r:0<i.length
  ·obtain⟨g,a,hiv⟩:∃g a,iv=.slice (some ⟨g,0,none⟩) i.length a:=by
    rcases d.row.2 with⟨_,e⟩|⟨g,a,cur,e,_⟩
    ·exact absurd e (by omega)
    ·exact⟨g,a,e⟩
   subst hiv;obtain⟨G,_⟩:=CZ d.row rfl;have H:=(d.di g rfl).1;have HMM:=bA G;have x4:wr.cell? ⟨x,4,none⟩=some (.slice (some ⟨g,0,none⟩) i.length a):=d.blk.cell 4;have c1:wr.cell? ⟨g,1,none⟩=some (.int .i64 (hget i 0).t):=by have:=(G.cells (k:=0) r).2.1;simpa using this
   by_cases ht:(hget i 0).t<=u
   ·have hhl:i.length=xs.length:=by
     have h1:=d.perm.length_eq;have h2:=Zc List.length d.q1;simp only[Ua]at h1 h2;omega
    have hh9:i.length<=1000000000:=by have:=F.out;have:=HLX.out;omega
    obtain⟨q,hq,a0⟩:=d.top r;have HQ:=bA hq;have HQB:=bA a0;have V:Hid (Calls prog 260 #[.pointer (some ⟨x,4,none⟩)] wr fun e o=>e=.returned (.agg #[.pointer (some ⟨(hget i 0).b,0,none⟩),.int .i64 (hget i 0).t])/\lA o x (#[.int .i64 t.l9,.map (some lm),.map (some U),.map (some K),.slice (some ⟨g,0,none⟩) i.length a].setIfInBounds 4 (.slice (some ⟨g,0,none⟩) (i.length-1) a)) 187/\rF o g a (zM i)/\gA (fun k=>k=x\/k=g) wr o):=aLq x 4 g a i wr _ _ d.blk rfl G H r hh9;have HTL:=bA ht;clear hhl G;rw[<-a0]at V;clear a0;generalize hTT:(hget i 0).t=TT at *;have HTT:Hid _:=hTT;clear hTT;go_wp2_with fail;refine V.out.mono ?_;rintro e y ⟨rfl,hb1,hm1,j⟩;have hp3:=(qN d.heap r).2.2;have PP:Hid (NB wr y x t.l9 lm U K (.slice (some ⟨g,0,none⟩) i.length a) (.slice (some ⟨g,0,none⟩) (i.length-1) a) i):=bA {
     blk:=by simpa using hb1
     row:=by have:=wV (B:=0) hm1 (Ha _);rw[hp3]at this;exact this
     same:=rfl
     turn:=j.mono fun k _ e=>by rcases e with e|e;exact Ba e;exact Ea (by rw[e];rfl) }
    have hqc:=d.cells q hq;have hqg:=(d.di g rfl).2 q hq;have hqx:=d.dx q hq;have Q1:Hid (lA y q.2 #[.string q.1.s,.int .i64 q.1.n] 113):=j.blk hqc (fun e=>by rcases e with e|e;exact hqx e;exact hqg e);have hfd:=aAj (.pointer (some ⟨q.2,0,none⟩)) (.int .i64 TT);have v0:y.cell? ⟨q.2,0,none⟩=some (.string q.1.s):=Q1.out.cell 0;have v1:y.cell? ⟨q.2,1,none⟩=some (.int .i64 q.1.n):=Q1.out.cell 1;have TS1:Hid (gA S w y):=Y.out.trans (j.mono fun k _ e=>by
     rcases e with rfl|rfl
     ·exact d.sx
     ·exact d.si _ rfl)
    have hqs:q.1∈xs:=by have:=Pc (f:=(·.1)) hq;rw[d.q1]at this;exact this
    have hks:=HKS.out q.1 (X.out q.1 hqs);clear hb1 hm1 hqc x4 c1 V H hp3;by_cases hL:q.1.n<=u
    ·obtain⟨c,hc⟩:∃c,pH tC xs (tC q.1.s)=c+1:=⟨pH tC (tD (·.s) q.1.s xs) (tC q.1.s),by have:=ft (met:=tC) d.rs hqs (tC q.1.s);rw[Ga rfl]at this;exact this⟩
     have hc9:c<=1000000000:=by have:=YN tC xs (tC q.1.s);have:=F.out;have:=HLX.out;omega
     have HDR:Hid (Calls prog 261 #[.pointer (some ⟨x,0,none⟩),.string q.1.s] y fun e o=>e=.returned (.tuple #[])/\o.ownsMap prog 9 kD U Q.length (DataW.del (oC (Q.map fun q=>(q.1.s,eE q.2))) (kL q.1.s))/\o.ownsMap prog 9 (plainElem prog 3) K M (D.put (kL (tC q.1.s)) (qG c))/\gA (fun k=>k=U\/k=K) y o):=
      aFi x lm U K t.l9 _ q.1.s Q D M c y PP.out.blk (j.map d.s9 (fun e=>by rcases e with e|e;exact uB d.s9 d.blk e;exact wE d.s9 d.row (by rw[e];rfl))) (j.map d.cnts (fun e=>by rcases e with e|e;exact uB d.cnts d.blk e;exact wE d.cnts d.row (by rw[e];rfl))) (by rw[d.cnt,hc]) d.d3 hks hM hc9 (fun W hW=>HUT.out W (TS1.out.trans (hW.mono fun k _ e=>by rw[e];exact d.ss)))
     have HCC:=bA hc;clear hc d j;go_wp2_with fail;refine HDR.out.mono ?_;rintro e w4 ⟨rfl,R,T,E⟩;have HE:=bA (aKh HI.out HF.out X.out F.out r (by rw[HTT.out];exact HTL.out) HQ.out HQB.out hL PP.out E R T HCC.out);clear R T E HDR;go_wp2;obtain⟨⟨k,A,C⟩,Z⟩:=HE.out;exact⟨⟨⟨k,A⟩,Y.out.trans Z⟩,HLT.out _ k A (by rw[HCN.out]at C;exact C)⟩
    ·have hL':u<q.1.n:=by omega
     have hpl:=(qN d.heap r).2.2;have HPU:Hid (∀W,Below y.heap.size y W->Calls prog 248 #[.pointer (some ⟨x,4,none⟩),.agg #[.pointer (some ⟨q.2,0,none⟩),.int .i64 q.1.n]] W fun e o=>e=.returned (.tuple #[])/\∃g' z,lA o x (#[.int .i64 t.l9,.map (some lm),.map (some U),.map (some K),.slice (some ⟨g,0,none⟩) (i.length-1) a].setIfInBounds 4 (.slice (some ⟨g',0,none⟩) ((zM i).length+1) z)) 187/\
      o.ownsRow 0 320 2 (.slice (some ⟨g',0,none⟩) ((zM i).length+1) z) ((zM i).length+1) (mI (pP (zM i) ⟨q.2,q.1.n⟩))/\((Value.slice (some ⟨g,0,none⟩) (i.length-1) a).ownBlock=some g'\/W.heap.size<=g')/\gA (fun k=>k=x\/(Value.slice (some ⟨g,0,none⟩) (i.length-1) a).ownBlock=some k) W o):=fun W hW=>by
      have H:=(d.di g rfl).1;exact mj x 4 0 (.slice (some ⟨g,0,none⟩) (i.length-1) a) (zM i) ⟨q.2,q.1.n⟩ W _ _ (PP.out.blk.later hW) rfl (by rw[hpl];exact(gA.of (S:=fun _=>False) hW).row PP.out.row (fun _ _ e=>e)) (fun e=>H (by simpa[Value.ownBlock]using e)) (Ha _) (by omega)
     clear d j v0;go_upto_region 4 with fail;refine sE 9 (by kernel_rfl) (by kernel_rfl) ?_;simp only[Nd,Ue,Od,Vc];have hnel:Nonempty Unit:=⟨()⟩
     repeat (go_big_quiet_step (fail))
     refine wpQuiet_nil ?_;go_wp2_with(first|(go_at_call 248;refine(HPU.out _ ((Below.refl _ _).drew)).mono ?_;rintro e w4 ⟨rfl,g',z,hb4,hr4,O,E⟩));have HE:=bA (aFk (B:=w.heap.size) HI.out HF.out X.out F.out r (by rw[HTT.out];exact HTL.out) HQ.out HQB.out hL' PP.out (by simpa using hb4) hr4 O ((gA.of (S:=fun k=>k=x\/(Value.slice (some ⟨g,0,none⟩) (i.length-1) a).ownBlock=some k) ((Below.refl y.heap.size y).drew)).trans' E) hwr (fun g hg _=>Ea hg));clear hb4 hr4 O E HPU;obtain⟨⟨k,A,C⟩,Z⟩:=HE.out;exact⟨⟨⟨k,A⟩,Y.out.trans Z⟩,HLT.out _ k A (by rw[HCN.out]at C;exact C)⟩
   ·have l:Hid (lC wr (fun g=>S g\/w.heap.size<=g) x (xD J I t) M):=aFl d HEU.out HF.out (fun h=>ht h.2);clear d;generalize (hget i 0).t=TT at *;go_wp2;go_end0;exact⟨rfl,l.out,Y.out⟩
  ·have l:Hid (lC wr (fun g=>S g\/w.heap.size<=g) x (xD J I t) M):=aFl d HEU.out HF.out (fun h=>r h.1);have hz:i.length=0:=by omega
   have x4:∃v,wr.cell? ⟨x,4,none⟩=some v/\(v=.slice none 0 0\/∃g a,v=.slice (some ⟨g,0,none⟩) 0 a):=by
    refine⟨iv,d.blk.cell 4,?_⟩;rcases d.row.2 with⟨e,_⟩|⟨g,a,cur,e,_⟩
    ·exact Ba e
    ·rw[hz]at e;exact Ea ⟨g,a,e⟩
   clear d hz;obtain⟨v,x4,hv⟩:=x4;rcases hv with rfl|⟨g,a,rfl⟩
   ·go_wp2;go_end0;exact⟨rfl,l.out,Y.out⟩
   ·go_wp2;go_end0;exact⟨rfl,l.out,Y.out⟩
end
section
open Go.Maps
theorem KO {H:Type} {P:Program} {k:TypeId} {R:Value->Option (DataW H×List MemPlace)} {w g:World} {b r n:Nat} {D:DataW H} {left:Lit->Bool} {cnt:Nat} {S:Nat->Prop} (h:w.ranges P k R b r n D left cnt) (f:gA S w g) (s:¬S b) (t:¬S r):g.ranges P k R b r n D left cnt:=by
 have o:=h.owns.lt;have p:=h.lt;obtain⟨m,a,c,e,i,j,F,u,q,l,d⟩:=h;exact⟨m,a,c,e,i,(f.block b o s).trans j,F,u,q,(f.block r p t).trans l,d⟩
theorem yi {key:Value} {a:Lit} (h:keyOf prog 9 key=some a):∃s,key=.string s/\a=kL s/\s.size<=maxLen:=WideMaps.string_of_keyOf underlying9 h
theorem gJ.trim {w:World} {B:Nat->Prop} {T:Nat->Option Nat} {l m:Nat} {c:nB} {a:Int} {L:List (eA×Nat)} {M:Nat} (h:gJ w B T l m c a L M):gJ w B (fun g=>if g<w.heap.size then T g else none) l m c a L M:=
 { h with
  idx:=fun p e=>(h.idx p e).keep fun g d b=>⟨rfl,b.1,by show(if g<w.heap.size then T g else none)=_;rw[Ga d];exact b.2⟩
  tl:=by show(if l<w.heap.size then T l else none)=none;rw[Ga (aA h.blk)];exact h.tl
  tm:=by show(if m<w.heap.size then T m else none)=none;rw[Ga h.ten.lt];exact h.tm}
theorem gJ.aside {w f:World} {B:Nat->Prop} {T:Nat->Option Nat} {l m r:Nat} {c:nB} {a:Int} {L:List (eA×Nat)} {M:Nat} (h:gJ w B T l m c a L M) (d:gA (·=r) w f) (o:T r=none) (j:l≠r) (k:m≠r):gJ f B T l m c a L M:=
 { h with
  blk:=d.blk h.blk j
  ten:=d.map h.ten k
  idx:=fun p n=>(h.idx p n).keep fun g i b=>⟨d.block g i (fun e=>by rw[e,o]at b;cases b.2),b⟩ }
theorem gJ.moved {w f:World} {B:Nat->Prop} {T:Nat->Option Nat} {l m:Nat} {c:nB} {d a:Int} {L:List (eA×Nat)} {M:Nat} (h:gJ w B T l m c d L M) (i:gA (·=l) w f) (j:lA f l (oW c a m) 146):gJ f B T l m c a L M:=
 { h with
  blk:=j
  ten:=i.map h.ten h.lm
  idx:=fun p n=>(h.idx p n).keep fun g k b=>⟨i.block g k (fun e=>by rw[e,h.tl]at b;cases b.2),b⟩ }
theorem gJ.turned {w v:World} {B:Nat->Prop} {T:Nat->Option Nat} {l m:Nat} {c:nB} {n:Int} {L:List (eA×Nat)} {M:Nat} {p:eA×Nat} {t':eA} (h:gJ w B T l m c n L M) (x:∀g,w.heap.size<=g->B g) (t:p∈L) (o:t'.name=p.1.name)
 (u:gA (fun g=>B g/\T g=some p.2) w v) (y:lC v (fun g=>(B g/\T g=some p.2)\/w.heap.size<=g) p.2 t' M):
 gJ v B (fun g=>if g<w.heap.size then T g else some p.2) l m c n (qA (fun p:eA×Nat=>p.1.name) (t',p.2) L) M:=by
 have z:=aA h.blk;have A:=h.ten.lt;have f:(qA (fun p:eA×Nat=>p.1.name) (t',p.2) L).map (fun p=>(p.1.name,eE p.2))=L.map fun p=>(p.1.name,eE p.2):=
  DM (key:=fun p:eA×Nat=>p.1.name) (a:=(t',p.2)) (fun p:eA×Nat=>(p.1.name,eE p.2)) h.rise t o.symm (by simp[o])
 have k:(qA (fun p:eA×Nat=>p.1.name) (t',p.2) L).length=L.length:=by
  have:=Zc List.length f;simpa using this
 have s:∀q∈L,q.1.name≠t'.name->q.2≠p.2:=fun q i d e=>by
  have:=jQ h.nd i t e;rw[this,o]at d;exact d rfl
 exact {
  blk:=u.blk h.blk (fun e=>by rw[h.tl]at e;cases e.2)
  ten:=by rw[f,k];exact u.map h.ten (fun e=>by rw[h.tm]at e;cases e.2)
  rise:=dI h.rise
  idx:=fun q i=>by
   rcases ZX h.rise i with rfl|⟨i,d⟩
   ·refine y.keep fun g r b=>⟨rfl,?_,?_⟩
    ·rcases b with b|b
     ·exact b.1
     ·exact x g b
    ·show(if g<w.heap.size then T g else some p.2)=some p.2;by_cases j:g<w.heap.size
     ·rw[Ga j];rcases b with b|b
      ·exact b.2
      ·omega
     ·rw[Ca j]
   ·refine(h.idx q i).keep fun g r b=>⟨u.block g r (fun e=>?_),b.1,?_⟩
    ·have:=s q i d;rw[e.2]at b;exact this (Qc b.2).symm
    ·show(if g<w.heap.size then T g else some p.2)=_;rw[Ga r];exact b.2
  nd:=by
   rw[DM (key:=fun p:eA×Nat=>p.1.name) (a:=(t',p.2)) (·.2) h.rise t o.symm rfl];exact h.nd
  tl:=by show(if l<w.heap.size then T l else _)=none;rw[Ga z];exact h.tl
  tm:=by show(if m<w.heap.size then T m else _)=none;rw[Ga A];exact h.tm
  lB:=h.lB
  mB:=h.mB}
theorem gJ.left {w x o:World} {B:Nat->Prop} {T:Nat->Option Nat} {l m n:Nat} {c:nB} {d:Int} {L:List (eA×Nat)} {M:Nat} {k:ByteArray} {S:Nat->Prop} (h:gJ w B T l m c d L M) (A:∀g,S g->∀q∈L,q.1.name≠k->T g≠some q.2) (r:∀g,g<w.heap.size->S g->T g≠none)
 (v:gA S w x) (C:gA (·=m) x o) (f:o.ownsMap prog 9 kD m n (DataW.del (oC (L.map fun p=>(p.1.name,eE p.2))) (kL k))):
 gJ o B T l m c d (tD (fun p:eA×Nat=>p.1.name) k L) M:=by
 have u:=aA h.blk;have D:=v.size;have b:DataW.del (oC (L.map fun p=>(p.1.name,eE p.2))) (kL k)=oC ((tD (fun p:eA×Nat=>p.1.name) k L).map fun p=>(p.1.name,eE p.2)):=
  YT (key:=fun p:eA×Nat=>p.1.name) (fun p=>eE p.2) k L
 have a:∀g,g<w.heap.size->¬S g->g≠m->o.heap[g]?=w.heap[g]?:=fun g s y z=>by
  rw[C.block g (by omega) z,v.block g s y]
 exact {
  blk:=(a l u (fun e=>r l u e h.tl) h.lm.symm).trans h.blk
  ten:=by
   have:=SA f;rw[b,fL]at this;exact this
  rise:=iN h.rise
  idx:=fun q i=>by
   obtain⟨i,t⟩:=gQ.1 i;exact(h.idx q i).keep fun g s j=>⟨a g s (fun e=>A g e q i t j.2) (fun e=>by rw[e,h.tm]at j;cases j.2),j⟩
  nd:=h.nd.sublist (List.Sublist.map _ Qg)
  tl:=h.tl
  tm:=h.tm
  lB:=h.lB
  mB:=h.mB}
def TkR (c:nB) (a:Int) (b:List eA) (M:Nat) (B:Nat->Prop) (l m r:Nat) (left:Lit->Bool) (wr:World):Prop:=
 ∃T L,gJ wr B T l m c a L M/\L.map (·.1)=fH c.w a (fun s=>left (kL s)) b/\T r=none
theorem aJe {c:nB} {a:Int} {o:List eA} {M l m n:Nat} {B:Nat->Prop} {left:Lit->Bool} {wr:World} {T:Nat->Option Nat} {L:List (eA×Nat)} {D:DataW Unit} {s:ByteArray} {v:Value} {y:DataW Unit×List MemPlace} (h:gJ wr B T l m c a L M) (u:L.map (·.1)=fH c.w a (fun s=>left (kL s)) o) (g:wr.ownsMap prog 9 kD m n D) (x:left (kL s)=true) (C:kD v=some y) (f:∀zd,D.atKey (kL s) zd=y.1):
 ∃p∈L,p.1.name=s/\p.1∈o/\v=.pointer (some ⟨p.2,0,none⟩):=by
 rw[xj g h.ten]at f;have d:∀zd:DataW Unit,((zB (fun p:eA×Nat=>p.1.name) s L).map fun p=>eE p.2).getD zd=y.1:=fun zd=>by
  rw[<-rQ (key:=fun p:eA×Nat=>p.1.name) (fun p=>eE p.2)];exact f zd
 cases hg:zB (fun p:eA×Nat=>p.1.name) s L with
 |none=>
  rw[hg]at d;have b:=d (qG 0);have j:=d (qG 1);simp only[Option.map_none,Option.getD_none]at b j;rw[<-b]at j;simp[qG]at j
 |some p=>
  rw[hg]at d;have b:=d .nil;simp only[Option.map_some,Option.getD_some]at b;obtain⟨q,i⟩:=vT hg;have z:p.1∈fH c.w a (fun s=>left (kL s)) o:=by rw[<-u];exact Pc q
  obtain⟨t,A,e,r⟩:=WB z;have k:left (kL t.name)=true:=by rw[<-r,i];exact x
  rw[Ga k]at e;refine⟨p,q,i,by rw[e];exact A,xO (ps:=y.2) (by rw[C,b])⟩
end
section
open Go.Maps
theorem aGv {win now:Int} {left:Lit->Bool} {a:List eA} (c:vB (·.name) a) {t:eA} (d:t∈a) (b:left (kL t.name)=true):
 fH win now (fun s=>(fun z=>left z&&!z.sameKey (kL t.name)) (kL s)) a=if bE (xD win now t)=true then tD (·.name) t.name (fH win now (fun s=>left (kL s)) a) else qA (·.name) (xD win now t) (fH win now (fun s=>left (kL s)) a):=
 tv (left:=fun s=>left (kL s)) c d b fun n=>by show(left (kL n) &&!(kL n).sameKey (kL t.name))=_;rw[BI]
theorem aBv (l m:Nat) (d:Int) (c:nB) (b:Int) (f:List eA) (M:Nat) (B:Nat->Prop) (w0 w:World) (h:yD w B l m c b f M) (h0:Below w0.heap.size w0 w) (hA:∀g,w.heap.size<=g->B g) (hA0:∀g,B g->w0.heap.size<=g) (hU:dF w0) (hn0:0<=b) (hn1:b<=1000000000000) (hw0:1<=c.w) (hw1:c.w<=1000000000) (hM:M<=1000000000) (hsl:∀t∈f,t.s9.length<=1000000000) (hks:∀t∈f,∀p∈t.s9,p.s.size<=1000000000):
 Calls prog 189 #[.pointer (some ⟨l,0,none⟩),.int .i64 d] w fun e w'=>e=.returned (.bool (fJ c.w b f d).2.2)/\yD w' B l m c (fJ c.w b f d).1 (fJ c.w b f d).2.1 M/\gA B w w':=by
 have Z:=bA h;have HA:=bA hA;have HA0:=bA hA0;clear hA hA0;obtain⟨T,L,h,hL⟩:=h;have u:Hid (fJ c.w b f d=if d<1\/1000000000000-b<d then(b,f,false) else(b+d,sC c.w (b+d) f,true)):=rfl;have x6:w.cell? ⟨l,6,none⟩=some (.int .i64 b):=h.blk.cell 6;generalize fJ c.w b f d=R at *;by_cases h1:d<1
 ·have N:Hid (R=(b,f,false)):=by show _=_;rw[u.out,Ga (Ba h1)]
  clear h u;go_enter func189,ntmps189;go_wp2;go_ret;exact⟨kA (by rw[N.out]),by rw[N.out];exact Z.out,gA.refl _ _⟩
 by_cases h2:1000000000000-b<d
 ·have N:Hid (R=(b,f,false)):=by show _=_;rw[u.out,Ga (Ea h2)]
  clear h u;go_enter func189,ntmps189;go_wp2;go_ret;exact⟨kA (by rw[N.out]),by rw[N.out];exact Z.out,gA.refl _ _⟩
 have N:Hid (R=(b+d,sC c.w (b+d) f,true)):=by show _=_;rw[u.out,Ca (fun e=>by rcases e with e|e;exact h1 e;exact h2 e)]
 clear u Z;obtain⟨a,hnd⟩:∃a,a=b+d:=⟨_,rfl⟩
 rw[<-hnd]at N;have hb2:d<=1000000000000:=by omega
 have hnn:=hnd.symm;have hm0:0<=a:=by omega
 have hm1:a<=1000000000000:=by omega
 have hll:=aA h.blk;have hml:=h.ten.lt;have hB:=h0.size;have hlB:=h.lB;have HMB:=bA h.mB;have I:vB (·.name) f:=by rw[<-hL];exact(lR (key':=fun t:eA=>t.name) (fun p:eA×Nat=>p.1) (fun _=>rfl)).2 h.rise
 have ht1:gA (·=l) w (w.setCell ⟨l,6,none⟩ (.int .i64 a)):=(gA.refl (·=l) w).setCell (Ba rfl) 6 _;have X:Hid (lA (w.setCell ⟨l,6,none⟩ (.int .i64 a)) l (oW c a m) 146):=bA (by have:=h.blk.set 6 (.int .i64 a);simpa[oW]using this);have hsz:(w.setCell ⟨l,6,none⟩ (.int .i64 a)).heap.size=w.heap.size:=by simp
 have H1:Hid _:=(h.moved ht1 X.out).trim;have HT1:Hid (gA B w (w.setCell ⟨l,6,none⟩ (.int .i64 a))):=ht1.mono fun i _ e=>by rw[e];exact hlB
 have y7:(w.setCell ⟨l,6,none⟩ (.int .i64 a)).cell? ⟨l,7,none⟩=some (.map (some m)):=X.out.cell 7;have f6:=h.blk.free 6;have a0:Hid _:=hL;have HUT:Hid (∀W,gA B w W->Below w0.heap.size w0 W):=fun W hW=>h0.trans (hW.below hB fun k hk hs=>by have:=HA0.out k hs;omega);have HR:=bA I;have HSL:=bA hsl;have HKS:=bA hks;have HUU:=bA hU;have HEX:Hid _:=fun W hb=>JV l m c a W hb hm0 hm1 hw0 hw1;clear h hL I ht1 hsl hks hU h0 hnd;go_enter func189,ntmps189;go_wp2_with(first|(at_range;refine wpList_range_own _ rfl _ 144 rfl 9 151 vJ underlying144 kD m _ _ rfl H1.out.ten ?_;intro w2 G hg0 hs0)|go_in);try rw[hsz]at G
 have Q:=bA G;have HT2:Hid _:=HT1.out.trans' ((gA.grown hg0).mono fun i _ e=>by cases e);have K0:Hid (TkR c a f M B l m w.heap.size (Maps.has (oC (L.map fun p=>(p.1.name,eE p.2)))) w2):=by
  refine bA ⟨_,L,H1.out.keep fun g hg _=>hg0.block g hg (by simp),?_,?_⟩
  ·rw[aCc fun t ht=>?_,a0.out];rw[ZD (key:=fun p:eA×Nat=>p.1.name) (val:=fun p=>eE p.2)];rw[<-a0.out]at ht;obtain⟨p,hp,rfl⟩:=Uc.1 ht;rw[cK H1.out.rise hp];rfl
  ·show(if w.heap.size<(w.setCell ⟨l,6,none⟩ (.int .i64 a)).heap.size then T w.heap.size else none)=none;rw[Ca (by omega)]
 clear G hg0 H1 X y7 f6 x6 HT1 a0;generalize hnL:L.length=nL at *;generalize oC (L.map fun p=>(p.1.name,eE p.2))=D0 at *;have hrl:l≠w.heap.size:=by omega
 have hrm:m≠w.heap.size:=by omega
 clear hnL;go_loopw [31] (fun _ wr=>∃(left:Lit->Bool) (cnt:Nat) (D:DataW Unit),Hid (wr.ranges prog 9 kD m w.heap.size nL D left cnt)/\Hid (TkR c a f M B l m w.heap.size left wr)/\Hid (gA B w wr)) (fun _ wr=>wr.rangeLeft m w.heap.size)
 case atStart=>exact⟨_,_,_,Q.out,K0.out,HT2.out⟩
 case round=>
  obtain⟨left,cnt,D,A,HK,HT⟩:=hrel;clear Q K0 HT2;go_wp2_with(first
   |(at_next;refine wpList_next_ranges _ rfl _ rfl 9 vJ kD Value.string (fun v:Value=>v) (fun key kl hk=>by obtain⟨x,hx,_⟩:=yi hk;exact⟨x,hx⟩) (fun v y _=>⟨v,rfl⟩) m w.heap.size nL _ _ _ rfl A.out ?_ ?_)
   |go_in)
  ·intro hc0 hl0;have HEND:Hid (yD wr B l m c a (sC c.w a f) M):=by
    obtain⟨U,L',k1,k2,_⟩:=HK.out;refine bA ⟨U,L',k1,?_⟩;rw[k2,tt fun n=>hl0 _]
   clear hc0 hl0;go_wp2;go_ret;exact⟨kA (by rw[N.out]),by rw[N.out];exact HEND.out,HT.out⟩
  ·intro s v kl yd yp w3 C F hlk hv hat H hlt hg3 hs3 hen;obtain⟨s',es,rfl,hss⟩:=yi F;obtain rfl:s=s':=by simpa using es
   obtain⟨U,L',k1,k2,k3⟩:=HK.out;obtain⟨p,hp,P,hpt,rfl⟩:=aJe (y:=(yd,yp)) k1 k2 A.out.owns hlk hv hat;have t3:gA (·=w.heap.size) wr w3:=(gA.grown hg3).mono fun i _ e=>by simp only[Ja]at e;exact e.symm
   have k1':=k1.aside t3 k3 hrl hrm;have K1:=bA k1';have K2:=bA k2;have K3:=bA k3;have HP:=bA hp;have HPN:=bA P;have HPT:=bA hpt;have RG3:=bA H;have HKEY:=bA F;have T3:Hid _:=HT.out.trans (t3.mono fun i _ e=>Ea (by omega));have HLB:Hid (lA w3 l (oW c a m) 146):=k1'.blk;have HCN:Hid _:=A.out.left_eq;have HDM:Hid _:=xj A.out.owns k1.ten;have r:Hid (fH c.w a (fun s_1=>(fun z=>left z&&!z.sameKey (kL s)) (kL s_1)) f=if bE (xD c.w a p.1)=true then tD (·.name) s (fH c.w a (fun s=>left (kL s)) f) else qA (·.name) (xD c.w a p.1) (fH c.w a (fun s=>left (kL s)) f)):=by
    have:=aGv (win:=c.w) (now:=a) (left:=left) HR.out hpt (by rw[P];exact hlk);rw[P]at this;exact bA this
   have HRR:Hid _:=H.lt;clear k1 k2 k3 k1' t3 hp P hpt H F hlk hv hat hg3 hs3 HK A hss es;go_wp2_with fail;refine(HEX.out _ HLB.out).mono ?_;rintro e w4 ⟨rfl,E⟩;have K4:Hid _:=K1.out.keep fun g hg _=>E.block g hg;have hs4:=E.size;have T4:Hid _:=T3.out.trans' (gA.of E);have RG4:Hid (w4.ranges prog 9 kD m w.heap.size nL D (fun z=>left z&&!z.sameKey (kL s)) C):=KO RG3.out (gA.of (S:=fun _=>False) E) (fun e=>e) (fun e=>e);have HXP:Hid (Calls prog 230 #[.pointer (some ⟨p.2,0,none⟩),.int .i64 (a-c.w)] w4 fun e w'=>e=.returned (.tuple #[])/\lC w' (fun g=>(fun g=>B g/\U g=some p.2) g\/w4.heap.size<=g) p.2 (xD c.w a p.1) M/\gA (fun g=>B g/\U g=some p.2) w4 w'):=qv p.2 p.1 c.w a (a-c.w) (fun g=>B g/\U g=some p.2) M w0 w4 (K4.out.idx p HP.out) (HUT.out w4 T4.out) HUU.out (fun g hg=>HA0.out g hg.1) rfl (HSL.out p.1 HPT.out) hM (HKS.out p.1 HPT.out);clear E RG3 K1 HLB T3;go_wp2_with fail;refine HXP.out.mono ?_;rintro e w5 ⟨rfl,hi5,J⟩;have HI5:=bA hi5;have HT5:=bA J;have K:Hid (Calls prog 176 #[.pointer (some ⟨p.2,0,none⟩)] w5 fun e w'=>e=.returned (.bool (bE (xD c.w a p.1)))/\w'=w5):=PA p.2 _ _ M w5 hi5;have O:Hid (w5.ranges prog 9 kD m w.heap.size nL D (fun z=>left z&&!z.sameKey (kL s)) C):=KO RG4.out J (fun e=>by rw[K4.out.tm]at e;cases e.2) (fun e=>by rw[K3.out]at e;cases e.2);have T5:Hid _:=T4.out.trans' (J.mono fun i _ e=>e.1);have x7:w5.cell? ⟨l,7,none⟩=some (.map (some m)):=(J.blk K4.out.blk (fun e=>by rw[K4.out.tl]at e;cases e.2)).cell 7;clear hi5 J HXP RG4;cases hidl:bE (xD c.w a p.1) with
   |true=>
    rw[hidl]at K r;rw[Ga rfl]at r;clear hidl;go_wp2_with fail;refine K.out.mono ?_;rintro e wz ⟨rfl,hw⟩;replace hw:=hw.symm;subst hw;go_wp2_with(at_delete;refine wpList_delete_ranges _ rfl _ _ 144 9 rfl 151 vJ underlying144 kD m w.heap.size nL _ _ _ rfl O.out _ _ rfl HKEY.out ?_;intro w6 cnt6 j hle6 o);rw[Maps.strike_twice]at j;have ht6:=gA.mapped o;have Y:Hid (TkR c a f M B l m w.heap.size (fun z=>left z&&!z.sameKey (kL s)) w6):=by
     have V:=j.owns;rw[HDM.out]at V;refine bA ⟨U,_,gJ.left (k:=s) (S:=(fun g=>B g/\U g=some p.2)) K4.out (fun g hs q hq hne e=>?_) (fun g _ hs e=>by rw[e]at hs;cases hs.2) HT5.out ht6 V,?_,K3.out⟩
     ·rw[hs.2]at e;have:=jQ K4.out.nd hq HP.out (Qc e).symm;rw[this]at hne;exact hne HPN.out
     ·rw[lY (key':=fun t:eA=>t.name) (fun p:eA×Nat=>p.1) (fun _=>rfl),K2.out];exact r.out.symm
    have HT6:Hid _:=T5.out.trans' (ht6.mono fun i _ e=>(show i=m from e) ▸ HMB.out);have RG6:=bA j;clear j o ht6;go_wp2;refine⟨⟨_,_,_,_,_,_,_,_,_,_,_,_,_,_,_,_,_,_,⟨_,cnt6,_,RG6.out,Y.out,HT6.out⟩,rfl⟩,by rw[RG6.out.left_eq,HCN.out];omega⟩
   |false=>
    rw[hidl]at K r;rw[Ca (by simp)]at r;clear hidl;have Y:Hid (TkR c a f M B l m w.heap.size (fun z=>left z&&!z.sameKey (kL s)) w5):=by
     refine bA ⟨_,_,gJ.turned (p:=p) (t':=xD c.w a p.1) K4.out (fun g hg=>HA.out g (Ma T4.out.size hg)) HP.out rfl HT5.out HI5.out,?_,?_⟩
     ·rw[fQ (key':=fun t:eA=>t.name) (fun p:eA×Nat=>p.1) (fun _=>rfl),K2.out];exact r.out.symm
     ·show(if w.heap.size<w4.heap.size then U w.heap.size else some p.2)=none;rw[Ga (by have:=O.out.lt;have:=HRR.out;omega)];exact K3.out
    go_wp2_with fail;refine K.out.mono ?_;rintro e wz ⟨rfl,hw⟩;replace hw:=hw.symm;subst hw;go_wp2;exact⟨⟨_,C,_,O.out,Y.out,T5.out⟩,by rw[O.out.left_eq,HCN.out];exact hlt⟩
end
section
open Go.Maps
theorem PM (n:Nat) (w:World):Calls prog 187 #[.int .i64 n] w fun e g=>e=.returned (.bool (decide (n=1) ||decide (n=2)))/\g=w:=by
 by_cases a:n=1
 ·subst a;go_enter func187,ntmps187;go_wp2;go_ret;exact⟨kA (by simp),rfl⟩
 ·have d:¬((n:Int)=1):=by omega
  by_cases b:n=2
  ·subst b;go_enter func187,ntmps187;go_wp2;go_ret;exact⟨kA (by simp),rfl⟩
  ·have f:¬((n:Int)=2):=by omega
   have c:Hid ((decide (n=1) ||decide (n=2))=false):=by show _=_;simp[a,b]
   go_enter func187,ntmps187;go_wp2;go_ret;exact⟨kA (by rw[c.out];simp;omega),rfl⟩
theorem aQj (x:Value) (w:World):(Instr.typeAssert (.iface 264 x) 220 264 true).run prog w=.ok (.tuple #[x,.bool true]) w:=by kernel_rfl
theorem aQk (x:Value) (w:World):(Instr.typeAssert (.iface 266 x) 220 264 true).run prog w=.ok (.tuple #[.agg #[.int .i64 0,.string ⟨#[]⟩,.string ⟨#[]⟩],.bool false]) w:=by kernel_rfl
theorem aQl (x:Value) (w:World):(Instr.typeAssert (.iface 266 x) 220 266 true).run prog w=.ok (.tuple #[x,.bool true]) w:=by kernel_rfl
theorem aQm (x:Value) (w:World):(Instr.typeAssert (.iface 268 x) 220 264 true).run prog w=.ok (.tuple #[.agg #[.int .i64 0,.string ⟨#[]⟩,.string ⟨#[]⟩],.bool false]) w:=by kernel_rfl
theorem aQn (x:Value) (w:World):(Instr.typeAssert (.iface 268 x) 220 266 true).run prog w=.ok (.tuple #[.agg #[.int .i64 0,.string ⟨#[]⟩,.int .i64 0],.bool false]) w:=by kernel_rfl
theorem aQo (x:Value) (w:World):(Instr.typeAssert (.iface 268 x) 220 268 true).run prog w=.ok (.tuple #[x,.bool true]) w:=by kernel_rfl
theorem so (l m:Nat) (r:dE) (c:nB) (a:Int) (b:List eA) (M:Nat) (B:Nat->Prop) (H w:World) (h:yD w B l m c a b M) (U:Below H.heap.size H w) (P:∀g,w.heap.size<=g->B g) (K:∀g,B g->H.heap.size<=g) (Q:dF H) (N:iB c a b=true) (X:b.length+nA b<=1100000) (V:1<=M) (hM:M<=1000000000) (hn:r.n9.size<=1048576) (hx:r.text.size<=1048576) (hk:zT r=true):
 Calls prog 148 #[.pointer (some ⟨l,0,none⟩),zS r] w fun e O=>e=.returned (.bool (cE c a b r).2.2)/\yD O B l m c (cE c a b r).1 (cE c a b r).2.1 (M+1)/\gA B w O:=by
 obtain⟨hc,q0,q1,hlen,ht⟩:=jI N;obtain⟨v0,v1⟩:=yu hc;have hB:=U.size;have hb:∀i (R:i<b.length),jE b[i]<=1100000:=fun i R=>by have:=BT b i R;omega
 have A:∀t∈b,t.s9.length<=1000000000/\t.m9.length<=1000000000/\wC t.s9<=1100000:=fun t z=>by
  obtain⟨i,R,rfl⟩:=Gb z;have:=hb i R;unfold jE at this;omega
 have C:∀W,Below w.heap.size w W->Below H.heap.size H W:=fun W n=>U.trans (n.mono hB);have G:Hid (∀W,Below w.heap.size w W->gA B w W):=fun W n=>gA.of n;have D:Hid _:=fun W n=>sn l m r.n9 r.text c a B b M W (h.later n) (fun g L=>P g (Ma (Below.size n) L)) (Q.later (C W n)) hn hx V hM (fun t z=>(A t z).1) (fun t z y hy=>(EZ (wI (iI ht t z)).2.2.1 y hy).2.2) (by omega);have F:Hid (∀W,Below w.heap.size w W->Calls prog 189 #[.pointer (some ⟨l,0,none⟩),.int .i64 r.num] W fun e O=>e=.returned (.bool (fJ c.w a b r.num).2.2)/\yD O B l m c (fJ c.w a b r.num).1 (fJ c.w a b r.num).2.1 M/\gA B W O):=fun W n=>aBv l m r.num c a b M B H W (h.later n) (C W n) (fun g L=>P g (Ma n.size L)) K Q q0 q1 v0 v1 hM (fun t z=>(A t z).1) (fun t z p hp=>by
  obtain⟨j,hj,rfl⟩:=Gb hp;have h1:=rL t.s9 j hj;have h2:=oN t.s9 (j+1);have:=(A t z).2.2;omega)
 have E:Hid _:=fun W n=>SZ l m r.n9 r.text r.num c a B b M W (h.later n) (fun g L=>P g (Ma (Below.size n) L)) (Q.later (C W n)) hn hx (fun t z=>(A t z).2.1) (by omega);clear P K h U Q N X hb A C ht hc;have I:Hid (cE c a b r=if r.kind=1 then(a,(eM c a b r.n9 r.text).1,decide ((eM c a b r.n9 r.text).2=1) ||decide ((eM c a b r.n9 r.text).2=2)) else if r.kind=2 then fJ c.w a b r.num else if r.kind=3 then(a,(oR b r.n9 r.text r.num).1,(oR b r.n9 r.text r.num).2) else(a,b,false)):=rfl;have o:Hid (zS r=if r.kind=1 then .iface 264 (.agg #[.int .i64 1,.string r.n9,.string r.text]) else if r.kind=2 then .iface 266 (.agg #[.int .i64 2,.string ByteArray.empty,.int .i64 r.num]) else if r.kind=3 then .iface 268 (.agg #[.int .i64 3,.string r.n9,.string r.text,.int .i64 r.num]) else .nilIface):=rfl;generalize cE c a b r=T at *;generalize zS r=S at *;have Y:r.kind=1\/r.kind=2\/r.kind=3:=by simpa[zT]using hk
 clear hk;obtain⟨ki,q,s,u⟩:=r;simp only at *;rcases Y with rfl|rfl|rfl
 ·have d:Hid (T=(a,(eM c a b q s).1,decide ((eM c a b q s).2=1) ||decide ((eM c a b q s).2=2))):=by show _=_;rw[I.out,Ga rfl]
  have J:S=.iface 264 (.agg #[.int .i64 1,.string q,.string s]):=by rw[o.out,Ga rfl]
  clear I o F E;subst J;generalize eM c a b q s=Z at *;have t1:=aQj (.agg #[.int .i64 1,.string q,.string s]);go_enter func148,ntmps148;go_wp2_with fail;refine(D.out _ (cA _ _)).mono ?_;rintro e w1 ⟨rfl,f,k⟩;have v:=bA f;have x:Hid _:=(G.out _ (cA _ _)).trans' k;clear f k;go_wp2_with fail;refine(PM _ _).mono ?_;rintro e wz ⟨rfl,hw⟩;replace hw:=hw.symm;subst hw;go_wp2;go_ret;exact⟨kA (by rw[d.out]),by rw[d.out];exact v.out,x.out⟩
 ·have d:Hid (T=fJ c.w a b u):=by show _=_;rw[I.out,Ca (by decide),Ga rfl]
  have J:S=.iface 266 (.agg #[.int .i64 2,.string ByteArray.empty,.int .i64 u]):=by rw[o.out,Ca (by decide),Ga rfl]
  clear I o D E;subst J;generalize fJ c.w a b u=Z at *;have t1:=aQk (.agg #[.int .i64 2,.string ByteArray.empty,.int .i64 u]);have t2:=aQl (.agg #[.int .i64 2,.string ByteArray.empty,.int .i64 u]);go_enter func148,ntmps148;go_wp2_with fail;refine(F.out _ (cA _ _)).mono ?_;rintro e w1 ⟨rfl,f,k⟩;have v:=bA f;have x:Hid _:=(G.out _ (cA _ _)).trans' k;clear f k;go_wp2;go_ret;exact⟨kA (by rw[d.out]),by rw[d.out];exact v.out.mono (by omega),x.out⟩
 ·have d:Hid (T=(a,(oR b q s u).1,(oR b q s u).2)):=by show _=_;rw[I.out,Ca (by decide),Ca (by decide),Ga rfl]
  have J:S=.iface 268 (.agg #[.int .i64 3,.string q,.string s,.int .i64 u]):=by rw[o.out,Ca (by decide),Ca (by decide),Ga rfl]
  clear I o D F;subst J;generalize oR b q s u=Z at *;have t1:=aQm (.agg #[.int .i64 3,.string q,.string s,.int .i64 u]);have t2:=aQn (.agg #[.int .i64 3,.string q,.string s,.int .i64 u]);have t3:=aQo (.agg #[.int .i64 3,.string q,.string s,.int .i64 u]);go_enter func148,ntmps148;go_wp2_with fail;refine(E.out _ (cA _ _)).mono ?_;rintro e w1 ⟨rfl,f,k⟩;have v:=bA f;have x:Hid _:=(G.out _ (cA _ _)).trans' k;clear f k;go_wp2;go_ret;exact⟨kA (by rw[d.out]),by rw[d.out];exact v.out.mono (by omega),x.out⟩
end
