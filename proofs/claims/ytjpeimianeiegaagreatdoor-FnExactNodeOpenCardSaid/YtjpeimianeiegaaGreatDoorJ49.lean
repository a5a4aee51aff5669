import Derived.Test.YtjpeimianeiegaaGreatDoorJ47
import Derived.Test.YtjpeimianeiegaaGreatDoorJ42
import Derived.Test.YtjpeimianeiegaaGreatDoorJ46
set_option maxRecDepth 100000
set_option maxHeartbeats 8000000
namespace Go.Proofs.YtjpeimianeiegaaGreatDoor
open Go.RowKit Tryz
section
open Go.Maps
def dy (c:nB) (R:Int×Int×List eA×Bool) (w:World) (e:Ending) (a:World):Prop:=
 (R.2.2.2=false/\e=.returned (.tuple #[.pointer none,GX 62])\/R.2.2.2=true/\∃h l m,e=.returned (.tuple #[.pointer (some ⟨h,0,none⟩),.nilIface])/\w.heap.size<=h/\lA a h #[.pointer (some ⟨l,0,none⟩),.int .i64 R.1] 87/\yD a (fun g=>w.heap.size<=g/\g≠h) l m c R.2.1 R.2.2.1 1100000)/\Below w.heap.size w a
structure CB (w W:World) (c:nB) (n:Int) (v:Value):Prop where
 C:lA W w.heap.size #[.int .i64 c.w,.int .i64 c.tl,.int .i64 c.ml,.int .i64 c.sh,.int .i64 c.ha,.int .i64 c.sg] 40
 S:lA W (w.heap.size+1) #[.int .i64 n,v] 35
 B:Below w.heap.size w W
section
variable {w W W':World} {c:nB} {n n':Int} {v v':Value}
theorem CB.new:CB w ((w.alloc (.cells #[.int .i64 c.w,.int .i64 c.tl,.int .i64 c.ml,.int .i64 c.sh,.int .i64 c.ha,.int .i64 c.sg] 40)).alloc (.cells #[.int .i64 n,v] 35)) c n v:=
 ⟨(lA.new _ _ _).alloc _,by have:=lA.new (w.alloc (.cells #[.int .i64 c.w,.int .i64 c.tl,.int .i64 c.ml,.int .i64 c.sh,.int .i64 c.ha,.int .i64 c.sg] 40)) #[.int .i64 n,v] 35;simpa using this,pA (cA _ _) (cA _ _)⟩
theorem CB.later (h:CB w W c n v) (a:Below W.heap.size W W'):CB w W' c n v:=⟨h.C.later a,h.S.later a,pA h.B a⟩
theorem CB.cells (h:CB w W c n v):W.cell? ⟨w.heap.size,0,none⟩=some (.int .i64 c.w)/\W.cell? ⟨w.heap.size,1,none⟩=some (.int .i64 c.tl)/\W.cell? ⟨w.heap.size,2,none⟩=some (.int .i64 c.ml)/\W.cell? ⟨w.heap.size,3,none⟩=some (.int .i64 c.sh)/\W.cell? ⟨w.heap.size,4,none⟩=some (.int .i64 c.ha)/\W.cell? ⟨w.heap.size,5,none⟩=some (.int .i64 c.sg):=
 ⟨h.C.cell 0,h.C.cell 1,h.C.cell 2,h.C.cell 3,h.C.cell 4,h.C.cell 5⟩
theorem CB.scells (h:CB w W c n v):W.cell? ⟨w.heap.size+1,0,none⟩=some (.int .i64 n)/\W.cell? ⟨w.heap.size+1,1,none⟩=some v/\W.frozen? ⟨w.heap.size+1,0,none⟩=false/\W.frozen? ⟨w.heap.size+1,1,none⟩=false/\w.heap.size+1<W.heap.size:=
 ⟨h.S.cell 0,h.S.cell 1,h.S.free 0,h.S.free 1,aA h.S⟩
theorem CB.put (h:CB w W c n v):CB w ((W.setCell ⟨w.heap.size+1,0,none⟩ (.int .i64 n')).setCell ⟨w.heap.size+1,1,none⟩ v') c n' v':=by
 have a:gA (·=w.heap.size+1) W ((W.setCell ⟨w.heap.size+1,0,none⟩ (.int .i64 n')).setCell ⟨w.heap.size+1,1,none⟩ v'):=((gA.refl (·=w.heap.size+1) W).setCell (Ba rfl) 0 _).setCell (Ba rfl) 1 _;exact⟨a.blk h.C (by omega),by have:=(h.S.set 0 (.int .i64 n')).set 1 v';simpa using this,h.B.trans (a.below h.B.size fun k b e=>by omega)⟩
end
theorem aEt {w W a:World} {c:nB} {R:Int×Int×List eA×Bool} {l m:Nat} (b:Below w.heap.size w W) (d:Below W.heap.size W a) (h:yD a (W.heap.size<=·) l m c R.2.1 R.2.2.1 1100000) (f:R.2.2.2=true):
 dy c R w (.returned (.tuple #[.pointer (some ⟨a.heap.size,0,none⟩),.nilIface])) (a.alloc (.cells #[.pointer (some ⟨l,0,none⟩),.int .i64 R.1] 87)):=by
 have e:=b.size;have k:=d.size;exact⟨Ea ⟨f,_,l,m,rfl,by omega,lA.new _ _ _,h.re fun g i j=>⟨(cA _ _).block g i,Ma e j,by omega⟩⟩,pA (pA b d) (cA _ _)⟩
theorem YM {w0 w:World} {B P D:Nat} {K:kB} {L:zH} (c:nB) (h:bQ w0 w B P D K L) (hc:vF c=true) (hs:xA K.fs<=1048576) (hU:dF w):
 Calls prog 64 #[.pointer (some ⟨P,0,none⟩),tE c] w fun e u=>dy c (tP c K) w e u:=by
 obtain⟨f1,f2,f3,f4,f5,f6,f7,_⟩:=dD h.valid;obtain⟨v,U⟩:=h.drive;obtain⟨a,ca,rfl,t⟩:=U.files;have G:=bA (fun W (q:Below w.heap.size w W)=>zR a ca K.fs mZ W (t.later q) (jL f1) (by omega));have f:=sT (K:=K) hc;have hnk:nS mZ K.fs<=1048576:=by have:=QT 0 1 (by omega) (by omega) K.fs;omega
 have d:=bA (fun W (q:Below w.heap.size w W) a p (h:(tP c K).2.2.2=true) (T:eC W a (tP c K).2.2.1)=>lq c (tP c K).2.1 a p (tP c K).2.2.1 1100000 W T (AL (by have:=(f h).1;omega)).1 (by have:=(f h).1;omega) (hU.later q));have i:=bA (fun h=>(f h).2.1);have d4:=U.cell4;have hDl:=aA U.blk;obtain⟨c0,_,_,_⟩:=h.wr.cells;have hPl:=aA h.wr;have HV:=bA U;have I:=bA t;have HU:=bA hU;have A:=bA hs;clear U t f1 f2 f3 f4 f5 f6 f7 h f hc hU hs hnk;unfold tE YA at *;cases hq:eF K.fs mZ (mA mZ K.fs) with
 |false=>
  have E:=bA (show tP c K=(0,0,[],true) from Ca (by unfold LQ;rw[hq];decide));rw[E.out]at d i |-
  clear E;have y:=bA (fun W (q:Below w.heap.size w W)=>d.out W q none 0 rfl (Ba rfl));have j:=i.out rfl;dsimp only at y j;rw[j]at y;rw[hq]at G;clear d i hq j;go_enter func64,ntmps64;go_wp2_with fail;refine(G.out _ CB.new.B).mono ?_;rintro e w1 ⟨rfl,r⟩;have Q:=bA ((CB.new (w:=w) (c:=c) (n:=0) (v:=.slice none 0 0)).later r);obtain⟨V,X,Y,Z,x4,x5⟩:=Q.out.cells;obtain⟨y0,y1,_,_,_⟩:=Q.out.scells;clear r G c0 d4;go_wp2_with fail;refine(y.out _ Q.out.B).mono ?_;rintro e w2 ho;rcases ho with⟨e,_⟩|⟨_,l,m,rfl,_,H,M⟩
  ·cases e
  have HL:=bA H;have HB:=bA M;clear H M y V X Y Z x4 x5 y0 y1;go_wp2;go_ret2;exact aEt (R:=(0,0,[],true)) Q.out.B HB.out HL.out rfl
 |true=>
  obtain⟨hi,hn,T⟩:=ql hq;have E:=bA (show tP c K=pJ c (fk K) from Ga hq);have S:=qR _ hi;rw[<-T]at S;have x:=bA (fun W (q:Below w.heap.size w W)=>ZH c (fk K) W (by have:=A.out;omega) (HU.out.later q));unfold fY tE at x;rw[E.out]at d i |-
  obtain⟨b,o,rfl,hbl,O⟩:∃b o,a=some ⟨b,o,none⟩/\b<w.heap.size/\xR w b o K.fs:=by
   rcases I.out with h|h
   ·rw[h]at hi;exact absurd hi (by simp)
   ·exact h
  have s:=(O _ hi).2.1;rw[<-T]at s;rw[hq]at G;have k:=bA (show ∀W,Below w.heap.size w W->W.cell? ⟨P,0,none⟩=some (.pointer (some ⟨D,0,none⟩))/\W.cell? ⟨D,4,none⟩=some (.slice (some ⟨b,o,none⟩) K.fs.length ca)/\W.cell? ⟨b,o+mA mZ K.fs*3+1,none⟩=some (.string (fk K)) from fun W q=>⟨(q.cell hPl).trans c0,(q.cell hDl).trans d4,(q.cell hbl).trans s⟩);generalize pJ c (fk K)=R at *;obtain⟨lsn,z,ts,ok⟩:=R;dsimp only at d i x;clear E I HU A hn T S O hq s HV;generalize fk K=tx at *;generalize mA mZ K.fs=pi at *;generalize K.fs.length=nf at *;go_enter func64,ntmps64;go_wp2_with fail;refine(G.out _ CB.new.B).mono ?_;rintro e w1 ⟨rfl,r⟩;have Q:=bA ((CB.new (w:=w) (c:=c) (n:=0) (v:=.slice none 0 0)).later r);obtain⟨V,X,Y,Z,x4,x5⟩:=Q.out.cells;obtain⟨z0,z1,z2⟩:=k.out w1 Q.out.B;clear r G c0 d4;go_wp2_with fail;go_region_held3 (fun u=>(u.cell? ⟨w.heap.size,0,none⟩=some (.int .i64 c.w)/\u.cell? ⟨w.heap.size,1,none⟩=some (.int .i64 c.tl)/\u.cell? ⟨w.heap.size,2,none⟩=some (.int .i64 c.ml)/\u.cell? ⟨w.heap.size,3,none⟩=some (.int .i64 c.sh)/\u.cell? ⟨w.heap.size,4,none⟩=some (.int .i64 c.ha)/\u.cell? ⟨w.heap.size,5,none⟩=some (.int .i64 c.sg))/\u.cell? ⟨P,0,none⟩=some (.pointer (some ⟨D,0,none⟩))/\u.cell? ⟨D,4,none⟩=some (.slice (some ⟨b,o,none⟩) nf ca)/\u.cell? ⟨b,o+pi*3+1,none⟩=some (.string tx))
   (first|exact⟨F.out.put.cells,k.out _ F.out.put.B⟩|exact⟨F.out.cells,k.out _ F.out.B⟩|exact⟨(Q.out.later (Below.refl _ _).drew).cells,k.out _ (Q.out.later (Below.refl _ _).drew).B⟩)
   (first|(go_at_call 99;refine(x.out _ (Q.out.later (Below.refl _ _).drew).B).mono ?_;rintro e w5 ⟨av,p,rfl,C,N⟩;have F:=bA ((Q.out.later (Below.refl _ _).drew).later N);obtain⟨y0,y1,y2,y3,y4⟩:=F.out.scells))
  have J:=bA (F.out.put (n':=z) (v':=.slice av ts.length p));have O6:=bA ((C.turned (((gA.refl (·=w.heap.size+1) w5).setCell (Ba rfl) 0 (.int .i64 z)).setCell (Ba rfl) 1 (.slice av ts.length p)) (fun g hg H e=>by have:=Q.out.scells.2.2.2.2;simp at hg;omega)).tens);clear C N y0 y1 y2 y3 y4 V X Y Z x4 x5 z0 z1 z2 x k F Q;generalize (w5.setCell ⟨w.heap.size+1,0,none⟩ (.int .i64 z)).setCell ⟨w.heap.size+1,1,none⟩ (.slice av ts.length p)=w6 at *;obtain⟨V,X,Y,Z,x4,x5⟩:=J.out.cells;obtain⟨y0,y1,_,_,_⟩:=J.out.scells;cases ok with
  |false=>
   go_wp2;go_ret2;exact⟨Ba ⟨rfl,rfl⟩,J.out.B⟩
  |true=>
   have j:=i.out rfl;go_wp2_with fail;refine(d.out _ J.out.B _ _ trivial O6.out).mono ?_;rintro e w2 ho;rcases ho with⟨e,_⟩|⟨_,l,m,rfl,_,H,M⟩
   ·rw[j]at e;cases e
   have HL:=bA H;have HB:=bA M;clear H M d j V X Y Z x4 x5 y0 y1;go_wp2;go_ret2;exact aEt (R:=(lsn,z,ts,true)) J.out.B HB.out HL.out rfl
end
theorem PY (s:ByteArray) (n:Nat) (p:Option Nat):(bG s n p).1.size<=s.size:=by
 cases p with
 |none=>simp[bG]
 |some p=>
  cases hh:dG s p n with
  |none=>rw[cU hh];simp
  |some a=>rw[bU hh];exact(EI hh).2.1
theorem xb (s:ByteArray) (n:Nat) (p:Option Nat):(mH s n p).1<256 ^ n:=by
 cases p with
 |none=>exact We (by omega)
 |some p=>
  rw[xL];split
  ·rename_i hh;have:=wS (zC s p n);rwa [kF hh]at this
  ·exact We (by omega)
theorem PT {s:ByteArray} {p0:Option Nat}:∀k i (h:i<(lK s p0 k).1.length),(lK s p0 k).1[i].n9.size<=s.size/\(lK s p0 k).1[i].text.size<=s.size
 |0,i,h=>absurd h (by simp[lK,lL])
 |k+1,i,h=>by
  cases hh:(lK s p0 k).2 with
  |none=>
   simp only[wq hh]at h |-
   exact PT k i h
  |some p=>
   simp only[ZS hh,List.getElem_append];split
   ·rename_i a;exact PT k i a
   ·simp only[List.getElem_singleton,IH];exact⟨PY _ _ _,PY _ _ _⟩
theorem aIa {s:ByteArray} {a:Option Nat} {k n:Nat} (h:¬(k<n/\∃q,(lK s a k).2=some q)) (f:k<=n):lK s a k=lK s a n/\(¬k<n\/k<n/\eI (lK s a n).2 = -1):=by
 rcases Ac k n with c|c
 ·have d:(lK s a k).2=none:=by
   cases hh:(lK s a k).2 with
   |none=>rfl
   |some b=>exact absurd ⟨c,b,hh⟩ h
  have e:=aKx d n f;exact⟨e.symm,Ea ⟨c,by rw[e,d];rfl⟩⟩
 ·obtain rfl:k=n:=by omega
  exact⟨rfl,Ba (by omega)⟩
theorem aPr {s:ByteArray} {a:Option Nat} (b:∀q,a=some q->q<=s.size):∀k q,(lK s a k).2=some q->q<=s.size
 |0,q,h=>b q h
 |k+1,q,h=>by
  cases hh:(lK s a k).2 with
  |none=>rw[wq hh,hh]at h;simp at h
  |some p=>rw[ZS hh,IH]at h;exact bJ h
theorem aPt {s:ByteArray} {n:Nat} {p:Option Nat} (f:s.size<=1000000000) (a:∀b,p=some b->b<=s.size) (c:n<=2) (W:World):Calls prog 45 #[.string s,.int .i64 (eI p),.int .i64 (n:Nat)] W fun e d=>e=.returned (.tuple #[.int .i64 ((mH s n p).1:Nat),.int .i64 (eI (mH s n p).2)])/\d=W:=by
 have:=yG s n p W (by omega) (fun q h=>by have:=a q h;omega) (by omega);have g:(mH s n p).1<65536:=Ab (xb s n p) (Zb (by omega) c);rw[pF (by omega)]at this;exact this
theorem aOn {s:ByteArray} {a:Option Nat} {k p:Nat} (d:s.size<=1000000000) (u:∀q,a=some q->q<=s.size) (f:(lK s a k).2=some p):∃(g:Nat) (j l:ByteArray) (i m o r t:Int),eI (lK s a k).2=(p:Int)/\Hid (∀W,Calls prog 45 #[.string s,.int .i64 (p:Nat),.int .i64 1] W fun e c=>e=.returned (.tuple #[.int .i64 (g:Nat),.int .i64 m])/\c=W)/\Hid (∀W,Calls prog 46 #[.string s,.int .i64 m,.int .i64 1] W fun e c=>e=.returned (.tuple #[.string j,.int .i64 o])/\c=W)/\Hid (∀W,Calls prog 46 #[.string s,.int .i64 o,.int .i64 2] W fun e c=>e=.returned (.tuple #[.string l,.int .i64 r])/\c=W)/\Hid (∀W,Calls prog 45 #[.string s,.int .i64 r,.int .i64 8] W fun e c=>e=.returned (.tuple #[.int .i64 i,.int .i64 t])/\c=W)/\Hid (CU (lK s a (k+1)).1=CU (lK s a k).1++[.int .i64 (g:Nat),.string j,.string l,.int .i64 i]/\(lK s a (k+1)).1.length=(lK s a k).1.length+1/\eI (lK s a (k+1)).2=t):=by
 have:=aPr u k p f;refine⟨_,_,_,_,_,_,_,_,by rw[f];rfl,fun W=>aPt (n:=1) (p:=some p) d (fun b h=>by cases h;omega) (by omega) W,fun W=>jO s 1 _ W d (fun q h=>by have:=bJ h;omega) (by omega),fun W=>jO s 2 _ W d (fun q h=>by have:=DI h;omega) (by omega),fun W=>yG s 8 _ W d (fun q h=>by have:=DI h;omega) (by omega),?_⟩;rw[ZS f,IH];exact⟨by simp[CU],by simp,rfl⟩
structure SB2 (w W:World) (L:Int) (v:Value):Prop where
 R:lA W w.heap.size #[.int .i64 0,.slice none 0 0] 66
 S:lA W (w.heap.size+1) #[.int .i64 L,v] 66
 B:Below w.heap.size w W
theorem SB2.later {w W b:World} {L:Int} {v:Value} (h:SB2 w W L v) (a:Below W.heap.size W b):SB2 w b L v:=⟨h.R.later a,h.S.later a,pA h.B a⟩
theorem SB2.new {w:World} {L:Int} {v:Value}:SB2 w ((w.alloc (.cells #[.int .i64 0,.slice none 0 0] 66)).alloc (.cells #[.int .i64 L,v] 66)) L v:=
 ⟨(lA.new _ _ _).alloc _,by have:=lA.new (w.alloc (.cells #[.int .i64 0,.slice none 0 0] 66)) #[.int .i64 L,v] 66;simpa using this,pA (cA _ _) (cA _ _)⟩
theorem bj (s:ByteArray) (w:World) (G:s.size<=1000000000):
 Calls prog 23 #[.string s] w fun e x=>∃A l,e=.returned (.tuple #[.agg #[.int .i64 (fF s).1,.slice A (fF s).2.1.length l],.bool (fF s).2.2])/\pK x A (fF s).2.1/\Below w.heap.size w x:=by
 have E:∀q,(nW s).2=some q->q<=s.size:=fun q h=>bJ h;have y:=bA (fun W=>yG s 8 (some 0) W G (fun q h=>by cases h;omega) (by omega));have z:=bA (fun W=>aPt (n:=2) (p:=(AW s).2) G (fun q h=>bJ h) (by omega) W);change Hid (∀W,Calls prog 45 #[.string s,.int .i64 0,.int .i64 8] W fun e x=>e=.returned (.tuple #[.int .i64 (zA (AW s).1),.int .i64 (eI (AW s).2)])/\x=W) at y;change Hid (∀W,Calls prog 45 #[.string s,.int .i64 (eI (AW s).2),.int .i64 2] W fun e x=>e=.returned (.tuple #[.int .i64 ((nW s).1:Nat),.int .i64 (eI (nW s).2)])/\x=W) at z;have hcl:(nW s).1<65536:=xb s 2 _;have Y:=VQ (s:=s) (p0:=(nW s).2) (nW s).1;have K:=bA (fun W A l (h:pK W A (lK s (nW s).2 (nW s).1).1)=>oa (zA (AW s).1) A l _ W h (fun i h=>by have:=PT (s:=s) (p0:=(nW s).2) (nW s).1 i h;exact⟨Ma this.1 G,Ma this.2 G⟩) (aFz _) (yN _) (by omega));have M:=bA (fun m Q=>aBt (s:=s) m Q);have d:=bA (fun h=>aGs (s:=s) h);rw[aBj]at M d;have H0:=bA E;clear E Y;generalize fF s=D at *;generalize uK (zA (AW s).1) (lK s (nW s).2 (nW s).1).1=J at *;generalize zA (AW s).1=L at *;generalize eI (AW s).2=pL at *;generalize (nW s).1=n at *;generalize (nW s).2=c at *;go_enter func23,ntmps23;iterate 2 (go_wp2_with fail;first|with_reducible refine fC (y.out _) ?_|with_reducible refine fC (z.out _) ?_)
 go_upto_block 0 with fail;have P:=bA (SB2.new (w:=w) (L:=L) (v:=.slice none 0 0));generalize ((w.alloc (.cells #[.int .i64 0,.slice none 0 0] 66)).alloc (.cells #[.int .i64 L,.slice none 0 0] 66))=W0 at *;go_cut [6] (fun _ wx=>∃v,SB2 w wx L v/\wx.ownsRow (w.heap.size+1+1) 122 4 v (lK s c n).1.length (CU (lK s c n).1))
 case first=>
  go_wp2_with fail;go_loopw [6,9] (fun N i wr=>∃(k:Nat) (v:Value),k<=n/\i=.int .i64 k/\N=.int .i64 (eI (lK s c k).2)/\Hid (SB2 w wr L v)/\Hid (wr.ownsRow (w.heap.size+1+1) 122 4 v (lK s c k).1.length (CU (lK s c k).1))) (fun _ i _=>n-(intOf i).toNat)
  case atStart=>exact⟨0,_,Ha _,rfl,rfl,P.out,World.ownsRow_nil _ _ _ _⟩
  case round=>
   obtain⟨k,v,hk,rfl,rfl,X,R⟩:=hrel;clear P;by_cases r:k<n/\∃p,(lK s c k).2=some p
   ·obtain⟨Z,p,hp⟩:=r;obtain⟨ki,te,tx,nu,z1,z2,z3,z4,hv,P1,P2,P3,P4,F⟩:=aOn G H0.out hp;rw[hv];have hlk:=VQ (s:=s) (p0:=c) k;have c1:wr.cell? ⟨w.heap.size+1,1,none⟩=some v:=X.out.S.cell 1;have hw:=aA X.out.S;clear hv hp;go_wp2_with(first|(go_at_call 45;first|with_reducible refine fC (P1.out _) ?_|with_reducible refine fC (P4.out _) ?_)|(go_at_call 46;first|with_reducible refine fC (P2.out _) ?_|with_reducible refine fC (P3.out _) ?_)|(at_builtin;refine gL rfl _ _ rfl underlying64 ji rfl (by omega) (by omega) (v:=v) rfl (R.out.alloc _) rfl (by simp) rfl (by simp[Value.oneCell']) (by omega) (by simp;omega) ?_;intro g5 cap5 w5 HO HT _;have X5:=bA (HT.out.blk (X.out.S.alloc _) (fun e=>by omega));have s5:=X5.out.cell 1;have f5:=X5.out.free 1));obtain⟨I,x2,x3⟩:=bL (X.out.S.alloc _) HT.out HO.out (De _) 1;exact⟨⟨k+1,_,by omega,by go_num,by rw[F.out.2.2],⟨x3.blk (X.out.R.alloc _) (fun e=>by omega),by simpa using I,(pA X.out.B (cA _ _)).trans (x3.below (by simp;omega) fun i V e=>by omega)⟩,bA (by rw[F.out.1,F.out.2.1];exact x2)⟩,by simp[intOf];omega⟩
   ·obtain⟨C,U⟩:=aIa r hk;rw[C]at R |-
    clear r C;rcases U with U|⟨U,m⟩
    ·go_wp2;go_meet;exact⟨v,X.out,R.out⟩
    ·rw[m];clear m;go_wp2;go_meet;exact⟨v,X.out,R.out⟩
 obtain⟨v,u,T⟩:=hcut;rename World=>w1;obtain⟨ra,rc,rfl⟩:=uI T;have X:=bA u;have O:=bA (KT T);have hc:s.toList.isEmpty=true/\D=(0,[],false)\/s.toList.isEmpty=false/\(J.toList==s.toList)=true/\D=(L,(lK s c n).1,true)\/s.toList.isEmpty=false/\(J.toList==s.toList)=false/\D=(0,[],false):=by
  have hb:(s.toList==[])=decide (s.size=0):=MJ;by_cases j:s.size=0
  ·exact Ba ⟨by simpa[j]using hb,d.out (Ba j)⟩
  ·have C:s.toList.isEmpty=false:=by simpa[j]using hb
   by_cases f:J=s
   ·exact Ea (Ba ⟨C,by simp[f],M.out j f⟩)
   ·refine Ea (Ea ⟨C,Ic.2 fun h=>f (dP ?_),d.out (Ea f)⟩);simpa[ByteArray.toList_eq]using eq_of_beq h
 generalize (lK s c n).1=LL at *;obtain⟨x0,I⟩:=u.S.c2;obtain⟨y0,y1⟩:=u.R.c2;have f0:=u.R.free;have Z:=aA u.S;clear u T M d;rcases hc with⟨m,rfl⟩|⟨m,Q,rfl⟩|⟨m,Q,rfl⟩
 all_goals
  go_wp2_with(go_at_call 52;refine(K.out _ ra rc O.out.recs).mono ?_;rintro e w3 ⟨rfl,o⟩;have t:=bA (X.out.later o);have O3:=bA (O.out.later o);clear x0 I y0 y1 f0;obtain⟨x0,I⟩:=t.out.S.c2;obtain⟨y0,y1⟩:=t.out.R.c2;have f0:=t.out.R.free;have hlt3:=aA t.out.S;clear o);refine bodyPost_ret (v:=?_) (by simp[results,results23,go_sem,y0,y1];rfl) rfl ?_;have H:=fun(W:World) (a b:Value)=>((gA.refl (·=w.heap.size) W).setCell (Ba rfl) 0 a).setCell (Ba rfl) 1 b;first
   |exact⟨ra,⟨rc,rfl⟩,(O3.out.turn (H _ _ _) (fun g e=>by omega)).recs,t.out.B.trans ((H _ _ _).below (by omega) fun i V e=>by omega)⟩
   |exact⟨none,⟨0,rfl⟩,Ba rfl,t.out.B.trans ((H _ _ _).below (by omega) fun i V e=>by omega)⟩
   |exact⟨none,⟨0,rfl⟩,Ba rfl,X.out.B.trans ((H _ _ _).below (by omega) fun i V e=>by omega)⟩
section
open Go.Maps
theorem vy {w:World} {N:Nat} {x y p q:Value} {t:TypeId} (h:lA w N #[x,y] t):lA ((w.setCell ⟨N,0,none⟩ p).setCell ⟨N,1,none⟩ q) N #[p,q] t:=by
 have:=(h.set 0 p).set 1 q;simpa using this
def ApR (w:World) (c:nB) (now:Int) (a:Option Addr) (n cap N:Nat) (nv:Value) (sv:Value) (X:Nat) (SV:Int×List eA×Bool) (b:World):Prop:=
 ∃a5 c5,wY w b c now a n cap/\lA b N #[nv,sv] 35/\(SV.2.2=true->lA b X #[.int .i64 SV.1,.slice a5 SV.2.1.length c5] 35/\uC b (X+1) a5 SV.2.1)
section
variable {w w5 W:World} {c:nB} {now:Int} {a a5:Option Addr} {n cap N X B c5:Nat} {nv sv:Value} {SV:Int×List eA×Bool} {n5:Int} {t5:List eA} {b5:Bool}
theorem vv (P:wY w w5 c now a n cap) (d:lA w5 N #[nv,sv] 35) (f:lA w5 X #[.int .i64 0,.slice none 0 0] 35) (O:uC w5 B a5 t5) (i:w.heap.size+1+1<X) (h:N≠X) (l:X<B):ApR w c now a n cap N nv sv X (n5,t5,b5) ((w5.setCell ⟨X,0,none⟩ (.int .i64 n5)).setCell ⟨X,1,none⟩ (.slice a5 t5.length c5)):=by
 have b:gA (·=X) w5 ((w5.setCell ⟨X,0,none⟩ (.int .i64 n5)).setCell ⟨X,1,none⟩ (.slice a5 t5.length c5)):=((gA.refl (·=X) w5).setCell (Ba rfl) 0 _).setCell (Ba rfl) 1 _;exact⟨a5,c5,P.turn b i,b.blk d h,fun _=>⟨vy f,(uC.turned O b (fun g j k e=>by omega)).mono (by omega)⟩⟩
theorem ApR.alloc (h:ApR w c now a n cap N nv sv X SV W) (o:Obj):ApR w c now a n cap N nv sv X SV (W.alloc o):=by
 obtain⟨a5,c5,d,f,b⟩:=h;exact⟨a5,c5,d.later (cA _ _),f.alloc _,fun e=>⟨(b e).1.alloc _,(b e).2.later (cA _ _)⟩⟩
end
theorem TJ (c:nB) (now:Int) (a:Option Addr) (cap:Nat) (l:List eA) (ar:Option Addr) (capr:Nat) (d:List dE) (w:World) (hf:eC w a l) (hr:pK w ar d) (hbk:l.length+nA l+d.length+fE d<=1048576):
 Calls prog 24 #[tE c,.agg #[.int .i64 now,.slice a l.length cap],.slice ar d.length capr] w fun e u=>CC (wZ c now l d) w e u:=by
 have M:l.length+nA l<=1100000:=by omega
 obtain⟨f1,f2,f3,f4⟩:=AL M;have HST:=bA (fun W (A:Below w.heap.size w W)=>vI c now a cap l W (hf.later A) f2 (by omega));have F:=bA (fun(h:iB c now l=true) W (A:Below w.heap.size w W)=>cR c now a cap l W (hf.later A) h M);have L:Hid (wZ c now l d=if iB c now l=false then(0,[],false) else if 500<d.length then(now,l,false) else if (xE c now l d).2.2=true then xE c now l d else(now,l,false)):=rfl;have HF:=bA hr;have HBK:=bA hbk;have P:=bA (wY.new (w:=w) (c:=c) (now:=now) (a:=a) (n:=l.length) (cap:=cap));clear hf hr f1 f2 f3 f4 hbk M;unfold CC;unfold tE at *;generalize wZ c now l d=V at *;go_enter func24,ntmps24;go_wp2_with fail;refine(HST.out _ P.out.B).mono ?_;rintro e w1 ⟨rfl,m⟩;replace P:=bA (P.out.later m);clear m HST;obtain⟨Q,R,x2,x3,x4,x5,y0,y1,I,J,g0,g1,hz⟩:=P.out.cells;cases hst:iB c now l with
 |false=>
  have E:Hid (V=(0,[],false)):=by show _=_;rw[L.out,Ga hst]
  go_wp2;refine bodyPost_ret (v:=?_) (by simp[results,results24,go_sem,I,J];rfl) rfl ?_;rw[E.out];refine⟨none,0,rfl,Ba rfl,?_⟩;first
   |exact(P.out.B.setCell (by show w.heap.size<=w.heap.size+1+1;omega) _).setCell (by show w.heap.size<=w.heap.size+1+1;omega) _
   |exact P.out.B
 |true=>
  have HSM:=bA (F.out hst);have y:Hid (V=if 500<d.length then(now,l,false) else if (xE c now l d).2.2=true then xE c now l d else(now,l,false)):=by show _=_;rw[L.out,Ca (by rw[hst];simp)]
  have HS0:=bA hst;clear L F I J g0 g1;go_wp2_with fail;refine(HSM.out _ P.out.B).mono ?_;rintro e w2 ⟨G,H,rfl,ho2,m⟩;clear Q R x2 x3 x4 x5 y0 y1;have O4:=bA ((ho2.mono (B':=w.heap.size+1+1+1) (by omega)).later (cA w2 (.cells #[.int .i64 now,.slice G l.length H] 35)));have P4:=bA ((P.out.later m).later (cA w2 (.cells #[.int .i64 now,.slice G l.length H] 35)));have N4:=bA (lA.new w2 #[.int .i64 now,.slice G l.length H] 35);have hNp:=(P.out.later m).lt;obtain⟨U,Y⟩:=N4.out.c2;clear m ho2 P;by_cases h5:500<d.length
  ·have E:Hid (V=(now,l,false)):=by show _=_;rw[y.out,Ga h5]
   go_upto_region 5 with fail;generalize w2.alloc (.cells #[.int .i64 now,.slice G l.length H] 35)=w4 at *;obtain⟨-,-,-,-,-,-,-,-,I,J,g0,g1,hz4⟩:=P4.out.cells;go_wp2;refine bodyPost_ret (v:=?_) (by simp[results,results24,go_sem,I,J];rfl) rfl ?_;rw[E.out];first
    |exact⟨G,⟨H,rfl⟩,P4.out.done O4.out (by omega)⟩
    |exact⟨G,H,rfl,P4.out.done O4.out (by omega)⟩
  ·have HVF:Hid ((xE c now l d).2.2=false->V=(now,l,false)):=fun h6=>by rw[y.out,Ca h5,Ca (by rw[h6];simp)]
   have HVT:Hid ((xE c now l d).2.2=true->V=xE c now l d):=fun h6=>by rw[y.out,Ca h5,Ga h6]
   go_wp2;generalize w2.alloc (.cells #[.int .i64 now,.slice G l.length H] 35)=w4 at *;generalize w2.heap.size=N at *;clear U Y y;go_loopw [29] (fun i wr=>∃(k:Nat) (j:Int) (f:List eA) (r:Option Addr) (s:Nat),k<=d.length/\i=.int .i64 k/\Hid (wY w wr c now a l.length cap)/\Hid (lA wr N #[.int .i64 j,.slice r f.length s] 35)/\Hid (uC wr (w.heap.size+1+1+1) r f)/\Hid (iB c j f=true)/\Hid (f.length+nA f+2*(d.length-k)+fE (d.drop k)<=1100000)/\Hid (xE c j f (d.drop k)=xE c now l d)) (fun i _=>d.length-(intOf i).toNat)
   case atStart=>exact⟨0,now,l,G,H,Ha _,rfl,P4.out,N4.out,O4.out,HS0.out,bA (by have:=HBK.out;simp only[Nat.sub_zero,Vc];omega),rfl⟩
   case round=>
    obtain⟨k,j,f,r,s,hk,rfl,P,t,S,x,HK,HR⟩:=hrel;clear P4 N4 O4 HS0;by_cases C:k<d.length
    ·obtain⟨b,o,har,hbw,q0,q1,q2,q3⟩:=(HF.out.later P.out.B).at C;subst har;have hkb:=HK.out;have hdr:=EK d C;have hstb:=BQ x.out d[k];have HVQ0:Hid _:=fun h=>HVF.out (by rw[<-HR.out,XA C h]);have D:Hid ((cE c j f d[k]).2.2=true->xE c (cE c j f d[k]).1 (cE c j f d[k]).2.1 (d.drop (k+1))=xE c now l d/\iB c (cE c j f d[k]).1 (cE c j f d[k]).2.1=true):=fun h=>⟨(WZ C h).symm.trans HR.out,FK x.out h⟩
     have HBN:Hid ((cE c j f d[k]).2.1.length+nA (cE c j f d[k]).2.1+2*(d.length-(k+1))+fE (d.drop (k+1))<=1100000):=by show _<=_;omega
     have K:Hid (cE c j f d[k]=if d[k].kind=1 then(j,(eM c j f d[k].n9 d[k].text).1,decide ((eM c j f d[k].n9 d[k].text).2=1) ||decide ((eM c j f d[k].n9 d[k].text).2=2)) else if d[k].kind=2 then fJ c.w j f d[k].num else if d[k].kind=3 then(j,(oR f d[k].n9 d[k].text d[k].num).1,(oR f d[k].n9 d[k].text d[k].num).2) else(j,f,false)):=rfl;have HAD:Hid (∀W,Below wr.heap.size wr W->Calls prog 54 #[.agg #[.int .i64 c.w,.int .i64 c.tl,.int .i64 c.ml,.int .i64 c.sh,.int .i64 c.ha,.int .i64 c.sg],.agg #[.int .i64 j,.slice r f.length s],.string d[k].n9,.string d[k].text] W fun e u=>∃a cap,e=.returned (.tuple #[.agg #[.int .i64 j,.slice a (eM c j f d[k].n9 d[k].text).1.length cap],.int .i64 ((eM c j f d[k].n9 d[k].text).2:Nat)])/\uC u W.heap.size a (eM c j f d[k].n9 d[k].text).1/\Below W.heap.size W u):=fun W A=>by
      have:=TH c j r s f d[k].n9 d[k].text W (S.out.tens.later A) (by omega) (by omega) (by omega) x.out;rw[aJq x.out]at this;exact this
     have HTK:Hid (∀W,Below wr.heap.size wr W->Calls prog 55 #[.agg #[.int .i64 c.w,.int .i64 c.tl,.int .i64 c.ml,.int .i64 c.sh,.int .i64 c.ha,.int .i64 c.sg],.agg #[.int .i64 j,.slice r f.length s],.int .i64 d[k].num] W fun e u=>∃a cap,e=.returned (.tuple #[.agg #[.int .i64 (fJ c.w j f d[k].num).1,.slice a (fJ c.w j f d[k].num).2.1.length cap],.bool (fJ c.w j f d[k].num).2.2])/\uC u W.heap.size a (fJ c.w j f d[k].num).2.1/\Below W.heap.size W u):=fun W A=>by
      have:=bt c j r s f d[k].num W (S.out.tens.later A) (by omega) x.out;rw[aJb x.out]at this;exact this
     have HSE:Hid (∀W,Below wr.heap.size wr W->Calls prog 56 #[.agg #[.int .i64 c.w,.int .i64 c.tl,.int .i64 c.ml,.int .i64 c.sh,.int .i64 c.ha,.int .i64 c.sg],.agg #[.int .i64 j,.slice r f.length s],.string d[k].n9,.string d[k].text,.int .i64 d[k].num] W fun e u=>∃a cap,e=.returned (.tuple #[.agg #[.int .i64 j,.slice a (oR f d[k].n9 d[k].text d[k].num).1.length cap],.bool (oR f d[k].n9 d[k].text d[k].num).2])/\uC u W.heap.size a (oR f d[k].n9 d[k].text d[k].num).1/\Below W.heap.size W u):=fun W A=>by
      have:=JB c j r s f d[k].n9 d[k].text d[k].num W (S.out.tens.later A) (by omega) (by omega) (by omega) x.out;rw[aMh x.out]at this;exact this
     clear hkb hdr hstb x HK HR;have hNr:=aA t.out;have hRr:=P.out.lt;have p:Hid (Below wr.heap.size wr ((wr.alloc (.cells #[.int .i64 d[k].kind,.string d[k].n9,.string d[k].text,.int .i64 d[k].num] 122)).alloc (.cells #[.int .i64 0,.slice none 0 0] 35))):=pA (cA _ _) (cA _ _);have XB:Hid _:=bA (by have:=lA.new (wr.alloc (.cells #[.int .i64 d[k].kind,.string d[k].n9,.string d[k].text,.int .i64 d[k].num] 122)) #[.int .i64 0,.slice none 0 0] 35;simpa using this);have UB:=bA ((lA.new wr #[.int .i64 d[k].kind,.string d[k].n9,.string d[k].text,.int .i64 d[k].num] 122).alloc (.cells #[.int .i64 0,.slice none 0 0] 35));generalize cE c j f d[k]=SV at *;go_upto_region 11 with fail;clear q0 q1 q2 q3;generalize ((wr.alloc (.cells #[.int .i64 d[k].kind,.string d[k].n9,.string d[k].text,.int .i64 d[k].num] 122)).alloc (.cells #[.int .i64 0,.slice none 0 0] 35))=wb at *;replace P:=bA (P.out.later p.out);replace t:=bA (t.out.later p.out);have hwb:=aA XB.out;clear S;obtain⟨Q,R,x2,x3,x4,x5,y0,y1,-,-,-,-,-⟩:=P.out.cells;obtain⟨U,Y⟩:=t.out.c2;obtain⟨q0,q1,q2,q3⟩:=UB.out.c4;generalize d[k].kind=z at *;generalize d[k].n9=TE at *;generalize d[k].text=TX at *;generalize d[k].num=NU at *;go_upto_block 2 with fail;go_cut [11,14] (fun ok _ wx=>ok=.bool SV.2.2/\ApR w c now a l.length cap N (.int .i64 j) (.slice r f.length s) (wr.heap.size+1) SV wx)
     case first=>
      generalize eM c j f TE TX=R1 at *;generalize fJ c.w j f NU=R2 at *;generalize oR f TE TX NU=R3 at *;obtain⟨t5,Z⟩:=R1;obtain⟨n6,t6,b6⟩:=R2;obtain⟨t7,b7⟩:=R3;have hks:z=1/\(((Z:Int)==1)=true/\SV=(j,t5,true)\/((Z:Int)==1)=false/\(((Z:Int)==2)=true/\SV=(j,t5,true)\/((Z:Int)==2)=false/\SV=(j,t5,false)))\/(z==1)=false/\(z=2/\SV=(n6,t6,b6)\/(z==2)=false/\(z=3/\SV=(j,t7,b7)\/(z==3)=false/\SV=(j,f,false))):=by
       rw[K.out];by_cases k1:z=1
       ·refine Ba ⟨k1,?_⟩;rw[Ga k1];by_cases v1:Z=1
        ·exact Ba ⟨by simp[v1],by simp[v1]⟩
        ·refine Ea ⟨by simp;omega,?_⟩;by_cases v2:Z=2
         ·exact Ba ⟨by simp[v2],by simp[v2]⟩
         ·exact Ea ⟨by simp;omega,by simp[v1,v2]⟩
       ·refine Ea ⟨by simpa using k1,?_⟩;rw[Ca k1];by_cases k2:z=2
        ·exact Ba ⟨k2,by rw[Ga k2]⟩
        ·refine Ea ⟨by simpa using k2,?_⟩;rw[Ca k2];by_cases T:z=3
         ·exact Ba ⟨T,by rw[Ga T]⟩
         ·exact Ea ⟨by simpa using T,by rw[Ca T]⟩
      clear K;rcases hks with⟨rfl,⟨h1,rfl⟩|⟨h1,⟨h2,rfl⟩|⟨h2,rfl⟩⟩⟩|⟨k1,⟨rfl,rfl⟩|⟨k2,⟨rfl,rfl⟩|⟨T,rfl⟩⟩⟩
      all_goals
       go_wp2_with((first
        |(go_at_call 54;refine(HAD.out _ p.out).mono ?_)
        |(go_at_call 55;refine(HTK.out _ p.out).mono ?_)
        |(go_at_call 56;refine(HSE.out _ p.out).mono ?_));rintro e w5 ⟨a5,c5,rfl,ho,m⟩;have O5:=bA ho;have P5:=bA (P.out.later m);have N5:=bA (t.out.later m);have X5:=bA (XB.out.later m);have hx5:=aA X5.out;clear ho m q0 q1 q2 q3 U Y Q R x2 x3 x4 x5 y0 y1;obtain⟨Q,R⟩:=X5.out.c2;have fx:=X5.out.free)
       go_meet;first
        |(have q:=T;exact⟨rfl,none,0,P.out,t.out,fun e=>by cases e⟩)
        |exact⟨rfl,vv P5.out N5.out X5.out O5.out (by omega) (by omega) hwb⟩
        |exact⟨rfl,(vv P5.out N5.out X5.out O5.out (by omega) (by omega) hwb).alloc _⟩
     clear HAD HTK HSE K UB XB p P t Q R x2 x3 x4 x5 y0 y1 U Y q0 q1 q2 q3;obtain⟨rfl,a5,c5,hP,hN,hX⟩:=hcut;rename World=>w6;have P:=bA hP;have t:=bA hN;obtain⟨Q,R,x2,x3,x4,x5,y0,y1,-,-,-,-,hz⟩:=hP.cells;obtain⟨n5,t5,b5⟩:=SV;cases b5 with
     |false=>
      have E:=bA (HVQ0.out rfl);clear hX hN hP;go_wp2_with(go_at_call 53;refine(HSM.out _ P.out.B).mono ?_;rintro e w9 ⟨ra,rc,rfl,ho,m⟩;have P9:=bA (P.out.later m);have HO9:=bA ho;clear ho m Q R x2 x3 x4 x5 y0 y1;obtain⟨-,-,-,-,-,-,-,-,I,J,g0,g1,hz9⟩:=P9.out.cells);refine bodyPost_ret (v:=?_) (by simp[results,results24,go_sem,I,J];rfl) rfl ?_;rw[E.out];first
       |exact⟨ra,⟨rc,rfl⟩,P9.out.done HO9.out hz⟩
       |exact⟨ra,rc,rfl,P9.out.done HO9.out hz⟩
     |true=>
      have HX:=bA (hX rfl);obtain⟨m0,m1⟩:=HX.out.1.c2;obtain⟨U,Y⟩:=hN.c2;have fn:=hN.free;clear hX hN hP;go_wp2;have hT:gA (·=N) w6 ((w6.setCell ⟨N,0,none⟩ (.int .i64 n5)).setCell ⟨N,1,none⟩ (.slice a5 t5.length c5)):=((gA.refl (·=N) w6).setCell (Ba rfl) 0 _).setCell (Ba rfl) 1 _;exact⟨⟨k+1,n5,t5,a5,c5,by omega,by go_num,bA (P.out.turn hT hNp),bA (vy t.out),bA ((uC.turned HX.out.2 hT (fun g h1 h2 e=>by omega)).mono (by omega)),(D.out rfl).2,HBN.out,(D.out rfl).1⟩,by simp[intOf];omega⟩
    ·have O:xE c now l d=(j,f,true):=by rw[<-HR.out,Ae (by omega)];rfl
     have E:Hid (V=(j,f,true)):=by show _=_;rw[HVT.out (by rw[O]),O]
     have hkl:¬((k:Int)<d.length):=by omega
     obtain⟨U,Y⟩:=t.out.c2;obtain⟨-,-,-,-,-,-,-,-,I,J,g0,g1,hz⟩:=P.out.cells;clear O;go_wp2;refine bodyPost_ret (v:=?_) (by simp[results,results24,go_sem,I,J];rfl) rfl ?_;rw[E.out];first
      |exact⟨r,⟨s,rfl⟩,P.out.done S.out (by omega)⟩
      |exact⟨r,s,rfl,P.out.done S.out (by omega)⟩
end
