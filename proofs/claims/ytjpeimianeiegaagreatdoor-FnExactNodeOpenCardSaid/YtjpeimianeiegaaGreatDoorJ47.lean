import Derived.Test.YtjpeimianeiegaaGreatDoorJ39
import Derived.Test.YtjpeimianeiegaaGreatDoorJ45
set_option maxRecDepth 100000
set_option maxHeartbeats 4000000
namespace Go.Proofs.YtjpeimianeiegaaGreatDoor
open Go.RowKit Tryz
def vL (w c:World):Prop:=∀(b:Nat) (o:Obj),w.heap[b]?=some o->(∀a t,o=.cells a t (0,0)->t≠98/\t≠138/\t≠76)->c.heap[b]?=some o
theorem kE.w {w d:World} (k:kE w d):vL w d:=fun b o h c=>k b o h fun a t e=>⟨(c a t e).1,(c a t e).2.1⟩
theorem vL.trans {a b c:World} (h:vL a b) (k:vL b c):vL a c:=fun x o e d=>k x o (h x o e d) d
theorem vL.p {w c:World} {P D:Nat} {L:zH} (k:jC (fun k=>k=P) w c) (h:en w P D L):vL w c:=fun b _ a d=>(k.block b (AY a) fun e=>(d _ _ (Qc (a.symm.trans (e ▸ h)))).2.2 rfl).trans a
def YB (f w:World) (B P D:Nat) (R:kB×zH×List ByteArray×Nat) (e:Ending) (c:World):Prop:=
 ∃(sl:Value) (d:zH),e=.returned (.tuple #[sl,aZ R.2.2.2])/\bQ f c B P D R.1 d/\vL w c/\(R.2.2.2=0->d=R.2.1/\∃a b,sl=.slice a R.2.2.1.length b/\c.ownsRow w.heap.size 9 1 sl R.2.2.1.length (R.2.2.1.map Value.string))
theorem bQ.dp {l w:World} {B P D:Nat} {K:kB} {L:zH} (h:bQ l w B P D K L):D≠P/\∀v,oB w B D K.fs K.c K.k K.cr K.fl K.dn v->∀g,v.ownBlock=some g->g≠P:=by
 constructor
 ·intro e;obtain⟨v,b⟩:=h.drive;have d:=b.blk;rw[e]at d;have a:=(show w.heap[P]?=_ from d).symm.trans h.wr;simp at a
 ·intro v b g j e;obtain⟨i,f⟩:=iU b.row g j;rw[e]at f;have a:=(show w.heap[P]?=_ from f).symm.trans h.wr;simp at a
theorem bQ.but {f w c:World} {B P D:Nat} {K:kB} {L d:zH} (h:bQ f w B P D K L) (b:eD P w c) (hw:en c P D d):bQ f c B P D K d:=by
 obtain⟨v,a⟩:=h.drive;obtain⟨i,j⟩:=h.dp;refine⟨h.pow,h.below.trans (b.below h.hP h.below.size),h.hB,h.hP,hw,⟨v,a.from',?_,?_,a.apart⟩,h.valid⟩
 ·exact(b.block D (aA a.blk) i).trans a.blk
 ·exact IW (S:=fun k=>k=P) a.row (jC.but b) (fun g l e=>j v a g l e)
theorem aOu {w e:World} {B a:Nat} {v:Value} {n:Nat} {f:List Value} (h:w.ownsRow B 9 a v n f) (o:kE w e):e.ownsRow B 9 a v n f:=by
 obtain⟨j,d⟩:=h;refine⟨j,?_⟩;rcases d with d|⟨g,b,c,i,l,m,k⟩
 ·exact Ba d
 ·exact Ea ⟨g,b,c,i,l,o.blk m (by decide) (by decide),k⟩
theorem ua {a:List dA} (h:yF a=true) {i:Nat} (c:i<a.length):a[i].name.size<=64:=by
 have b:=cX h a[i] (Db c);simp only[wL,wF,Na,Ya]at b;omega
theorem aFb {a:List dA} (h:xA a<=1000000000) (n:Int):(eW a n).size<=1000000000:=by
 unfold eW;cases hq:a[mA (vD n) a]? with
 |none=>simp
 |some f=>
  obtain⟨b,rfl⟩:=Va.1 hq;exact Ma (qR _ b) h
theorem bQ.read {u w:World} {B P D:Nat} {K:kB} {x:Int} {cnt:Nat} (h:bQ u w B P D K ⟨x,x+cnt,0⟩) (n:dN K.fs) (y:K.fs.length<=1000) (r:xA K.fs<=1000000000) (p:cnt<1000) (s:1<=x) (g:x<=999999)
 (f:∀j:Nat,j<=cnt->∃i,∃h:i<K.fs.length,K.fs[i].name=vD (x+j)):
 Calls prog 103 #[.pointer (some ⟨P,0,none⟩)] w fun e t=>ee P D x (x+cnt) w (uF K.fs (x+cnt) (cnt+1) x [] 0) e t:=by
 obtain⟨v,c⟩:=h.drive;obtain⟨k,l⟩:=h.dp;obtain⟨a,d,rfl,q⟩:=c.files;exact mr P D a d cnt K.fs x w h.wr c.cell4 (aA c.blk) k q (fun b o e=>l _ c b (by rw[e];rfl)) n (by omega) (fun W m=>h.pow.later (h.below.trans (m.below h.hP h.below.size))) p s g f (aFb r)
theorem XX {z w:World} {B P D:Nat} {K:kB} (h:bQ z w B P D K iD) (he:oH z):
 Calls prog 65 #[.pointer (some ⟨P,0,none⟩)] w fun e s=>YB z w B P D (cD K) e s:=by
 obtain⟨v,L⟩:=h.drive;obtain⟨a,cap,rfl,hf⟩:=L.files;obtain⟨f1,f2,f3,f4,f5,f6,f7,_⟩:=dD h.valid;have F:=jL f1;have HW:=bA h;have HV:=bA L;have M:=h.valid;obtain⟨c0,c1,c2,c3⟩:=h.wr.cells;have d3:=L.blk.cell 3;by_cases hdn:K.dn=true
 ·have E:Hid (cD K=(K,iD,[],1)):=by show _=_;unfold cD;rw[Ca (by rw[M];decide),Ga hdn]
  rw[E.out];rw[hdn]at d3;clear h L hdn;go_enter func65,ntmps65;go_wp2;refine bodyPost_ret (v:=.tuple #[.slice none 0 0,aZ 1]) (by simp[results,results65,go_sem,aZ,iG,yk]) rfl ⟨_,_,rfl,HW.out,fun _ _ h _=>h,fun h=>absurd (show(1:Nat)=0 from h) (by decide)⟩
 have hdn':K.dn=false:=by simpa using hdn
 rw[hdn']at d3;have A:Hid (Calls prog 101 #[.pointer (some ⟨P,0,none⟩)] w fun e s=>∃a' o,e=.returned (.slice a' (gF K.fs).length o)/\GH s a' (gF K.fs)/\Below w.heap.size w s):=
  aIl P D a cap K.fs w c0 L.cell4 hf (fun i hi=>by have:=ua f1 hi;omega) (by omega) h.tab (he.later h.below)
 have hnl:=Ma (EA K.fs) (by omega);cases S:gF K.fs with
 |nil=>
  obtain⟨⟨K1,N⟩,hS⟩:∃R,wD K (nI 1)=R:=⟨_,rfl⟩
  have E:Hid (cD K=if N≠0 then(K1,iD,[],N) else(K1,⟨1,1,0⟩,[],0)):=by
   show _=_;unfold cD;rw[Ca (by rw[M];decide),Ca hdn];simp only[S,hS]
  rw[S]at A;generalize cD K=R at *;clear h L hdn hf;go_enter func65,ntmps65;go_wp2_with fail;refine A.out.mono ?_;rintro e U ⟨a',o,rfl,_,t⟩;have f:=bA (HW.out.later t);obtain⟨v0,hv0⟩:=HW.out.drive;have Z:=lA.free f.out.wr 1;have b0:=lA.free f.out.wr 2;have d0:=lA.free f.out.wr 3;obtain⟨e0,e1,e2,e3⟩:=f.out.wr.cells;clear c0 c1 c2 c3 d3;go_upto_region 6 with fail;have g:Hid (bQ z (((U.setCell ⟨P,1,none⟩ (.int .i64 1)).setCell ⟨P,2,none⟩ (.int .i64 1)).setCell ⟨P,3,none⟩ (.int .i64 0)) B P D K ⟨1,1,0⟩):=((f.out.set (L':=⟨1,0,0⟩) 1 _ (by simp[iD])).set (L':=⟨1,1,0⟩) 2 _ (by simp)).set (L':=⟨1,1,0⟩) 3 _ (by simp);have KA:=bA ((kE.of t).w.trans (vL.p ((((jC.refl (fun k=>k=P) U).setCell rfl 1 (.int .i64 1)).setCell rfl 2 (.int .i64 1)).setCell rfl 3 (.int .i64 0)) f.out.wr));clear e0 e1 e2 e3 Z b0 d0 f t;generalize ((U.setCell ⟨P,1,none⟩ (.int .i64 1)).setCell ⟨P,2,none⟩ (.int .i64 1)).setCell ⟨P,3,none⟩ (.int .i64 0)=WA at *;obtain⟨c0,_,_,_⟩:=g.out.wr.cells;have HC0:Hid (∀W,bQ z W B P D K ⟨1,1,0⟩->Calls prog 98 #[.pointer (some ⟨D,0,none⟩),.agg #[.int .i64 1,.string (vD 1),.string ⟨#[]⟩,.string ⟨#[]⟩,.int .i64 0]] W fun e s=>e=.returned (iG N)/\N<=6/\bQ z s B P D K1 ⟨1,1,0⟩/\kE W s):=fun W hW=>by obtain⟨v,L⟩:=hW.drive;exact(oh (nI 1) hW L (IK (by omega) (by omega) (by omega)) (by show(1:Int)<=6;omega) hS).mono fun e s ⟨a,b,c,d,_⟩=>⟨a,b,c,d⟩
  go_region_held3 (fun s=>s.cell? ⟨P,0,none⟩=some (.pointer (some ⟨D,0,none⟩)))
   (first|exact Y.out.wr.cells.1|exact HW7.out.wr.cells.1|exact(g.out.later (Below.refl _ _).drew).wr.cells.1)
   (first
   |(go_at_call 102;refine(jX 1 _ (g.out.later (Below.refl _ _).drew).tab).mono ?_;rintro e w7 ⟨rfl,hb7⟩;have K7:=bA (KA.out.trans (kE.of (pA (Below.refl _ _).drew hb7)).w);have HW7:Hid (bQ z w7 B P D K ⟨1,1,0⟩):=(g.out.later (Below.refl _ _).drew).later hb7)
   |(go_at_call 98;refine(HC0.out _ HW7.out).mono ?_;rintro e w8 ⟨rfl,h6,hw8,hk8⟩;have K8:=bA (K7.out.trans hk8.w);have Y:Hid (bQ z w8 B P D K1 ⟨1,1,0⟩):=hw8))
  all_goals(
   go_wp2
   have hE:aZ N=iG N:=by
    match N,h6 with
    |0,_=>rfl
    |1,_=>rfl
    |2,_=>rfl
    |3,_=>rfl
    |4,_=>rfl
    |5,_=>rfl
    |6,_=>rfl
   by_cases hx:N=0
   ·subst hx
    refine bodyPost_ret (v:=.tuple #[.slice none 0 0,iG 0]) (by simp[results,results65,go_sem]) rfl ?_
    rw[E.out,Ca (by simp)]
    exact⟨_,_,rfl,Y.out,K8.out,fun _=>⟨rfl,none,0,rfl,rfl,Ba ⟨rfl,rfl⟩⟩⟩
   ·refine bodyPost_ret (v:=.tuple #[.slice none 0 0,iG N]) (by simp[results,results65,go_sem]) rfl ?_
    rw[E.out,Ga hx]
    exact⟨_,_,by rw[hE],Y.out,K8.out,fun h=>absurd h hx⟩)
 |cons x l=>
  have r:(x::l).getLast (by simp)=(x::l)[l.length]:=Xf _;obtain⟨y,hy⟩:∃y,(x::l)[l.length]=y:=⟨_,rfl⟩
  have E:Hid (cD K=oP K x y (l.length+1)):=by
   show _=_;unfold cD;rw[Ca (by rw[M];decide),Ca hdn];simp only[S,r,hy]
  have HNA:Hid (¬((l.length+1:Nat):Int)<=y-x->∃cnt:Nat,y=x+cnt/\cnt+1=l.length+1/\1<=x/\x+cnt<=999999/\∀j:Nat,j<=cnt->∃i,∃h:i<K.fs.length,K.fs[i].name=vD (x+j)):=fun hg=>by
   have:=MT F S (by rw[r,hy];exact hg);rw[r,hy]at this;exact this
  have hxb:1<=x/\x<=999999:=by have:=gU (fs:=K.fs) (n:=x) (by rw[S];simp);exact⟨this.1,this.2.1⟩
  have hyb:1<=y/\y<=999999:=by have:=gU (fs:=K.fs) (n:=y) (by rw[S,<-hy];exact Db _);exact⟨this.1,this.2.1⟩
  obtain⟨hx1,hx2⟩:=hxb;obtain⟨hy1,hy2⟩:=hyb;rw[S]at A hnl;rw[Sa]at hnl;have O:Hid (Calls prog 101 #[.pointer (some ⟨P,0,none⟩)] w fun e s=>∃nb no o,e=.returned (.slice (some ⟨nb,no,none⟩) (l.length+1) o)/\nb<s.heap.size/\s.cell? ⟨nb,no,none⟩=some (.int .i64 x)/\s.cell? ⟨nb,no+l.length,none⟩=some (.int .i64 y)/\Below w.heap.size w s):=by
   refine A.out.mono ?_;rintro e s ⟨a',o,rfl,hn,hb⟩;rcases hn with hn|⟨nb,no,rfl,hlt,hc⟩
   ·cases hn
   ·refine⟨nb,no,o,rfl,hlt,hc 0 (by simp),?_,hb⟩;rw[hc l.length (by simp),hy]
  have V:=bA (show oH z/\dN K.fs/\K.fs.length<=1000/\xA K.fs<=1000000000 from⟨he,F,f2,by omega⟩);generalize cD K=R at *;clear r hy S;generalize l.length=m at *;clear h L hdn hf A f1 f2 f3 f4 f5 f6 f7 he F M;go_enter func65,ntmps65;go_wp2_with fail;refine O.out.mono ?_;rintro e U ⟨nb,no,o,rfl,hnb,n0,n1,t⟩;have f:=bA (HW.out.later t);have Q:=t.size;have Z:=lA.free f.out.wr 1;have b0:=lA.free f.out.wr 2;have d0:=lA.free f.out.wr 3;obtain⟨e0,e1,e2,e3⟩:=f.out.wr.cells;clear c0 c1 c2 c3 d3;go_wp2_with fail;go_region
  have KA:=bA ((kE.of t).w.trans (vL.p (((((jC.refl (fun k=>k=P) U).setCell rfl 1 (.int .i64 x)).setCell rfl 2 (.int .i64 y)).setCell rfl 3 (.int .i64 0)).drew) f.out.wr));have g:Hid (bQ z ((((U.setCell ⟨P,1,none⟩ (.int .i64 x)).setCell ⟨P,2,none⟩ (.int .i64 y)).setCell ⟨P,3,none⟩ (.int .i64 0)).drew) B P D K ⟨x,y,0⟩):=(((f.out.set (L':=⟨x,0,0⟩) 1 _ (by simp[iD])).set (L':=⟨x,y,0⟩) 2 _ (by simp)).set (L':=⟨x,y,0⟩) 3 _ (by simp)).later (Below.refl _ _).drew;have hsA:w.heap.size<=((((U.setCell ⟨P,1,none⟩ (.int .i64 x)).setCell ⟨P,2,none⟩ (.int .i64 y)).setCell ⟨P,3,none⟩ (.int .i64 0)).drew).heap.size:=by simpa using Q
  clear e0 e1 e2 e3 Z b0 d0 f n0 n1 O Q t;generalize (((U.setCell ⟨P,1,none⟩ (.int .i64 x)).setCell ⟨P,2,none⟩ (.int .i64 y)).setCell ⟨P,3,none⟩ (.int .i64 0)).drew=WA at *;obtain⟨a0,a1,a2,a3⟩:=g.out.wr.cells;simp only at a1 a2 a3;by_cases H:((m+1:Nat):Int)<=y-x
  ·have HE:Hid _:=E.out.trans (WH H);have hg2:(m:Int)+1<=y-x:=by omega
   go_wp2_with fail;go_region
   go_wp2;refine bodyPost_ret (v:=.tuple #[.slice none 0 0,aZ 21]) (by simp[results,results65,go_sem,aZ,aDo]) rfl ?_;rw[HE.out];exact⟨_,_,rfl,g.out.later (Below.refl _ _).drew,KA.out.trans (kE.of (Below.refl _ _).drew).w,fun h=>absurd (show(21:Nat)=0 from h) (by decide)⟩
  ·obtain⟨cnt,rfl,hcm,_,hcx,f0⟩:=HNA.out (by omega);have hg2:¬(m:Int)+1<=x+(cnt:Int)-x:=by omega
   have hto:(x+(cnt:Int)-x).toNat=cnt:=by omega
   have HRD:Hid _:=fun W (hW:Below WA.heap.size WA W)=>(g.out.later hW).read V.out.2.1 V.out.2.2.1 V.out.2.2.2 (by omega) hx1 hx2 f0;have HIX:=bA f0;have HGP:=bA H;have HTO:=bA hto;clear f0 H hto HNA;go_wp2_with fail;go_region
   go_wp2_with fail;refine(HRD.out _ (Below.refl _ _).drew).mono ?_;intro e w3 J;cases hRR:uF K.fs (x+cnt) (cnt+1) x [] 0 with
   |none=>
    rw[hRR]at J;obtain⟨u,rfl,sz,G⟩:=J;have HE:Hid _:=E.out.trans (ud (by have:=HGP.out;omega) (by rw[HTO.out];exact hRR));have X:Hid (bQ z w3 B P D K ⟨x,x+cnt,sz⟩):=(g.out.later (Below.refl _ _).drew).but u G;have K3:=bA ((KA.out.trans (kE.of (Below.refl _ _).drew).w).trans (vL.p (jC.but u) (g.out.later (Below.refl _ _).drew).wr));clear u G;unfold aZ;go_wp2;refine bodyPost_ret (v:=.tuple #[.slice none 0 0,aZ 20]) (by simp[results,results65,go_sem,aZ]) rfl ?_;rw[HE.out];exact⟨_,_,rfl,X.out,K3.out,fun h=>absurd (show(20:Nat)=0 from h) (by decide)⟩
   |some q=>
    obtain⟨I,sz⟩:=q;rw[hRR]at J;obtain⟨u,⟨a4,C,rfl,T⟩,G⟩:=J;obtain⟨⟨KM,xm⟩,hM⟩:∃R,cJ K (x+cnt) sz=R:=⟨_,rfl⟩
    have HE:Hid _:=E.out.trans (uc (by have:=HGP.out;omega) (by rw[HTO.out];exact hRR) hM);have X:Hid (bQ z w3 B P D K ⟨x,x+cnt,sz⟩):=(g.out.later (Below.refl _ _).drew).but u G;have K3:=bA ((KA.out.trans (kE.of (Below.refl _ _).drew).w).trans (vL.p (jC.but u) (g.out.later (Below.refl _ _).drew).wr));have HROW:Hid (w3.ownsRow w.heap.size 9 1 (.slice a4 I.length C) I.length (I.map Value.string)):=ES T (by simpa using hsA);have HMD:Hid (Calls prog 104 #[.pointer (some ⟨P,0,none⟩)] w3 fun e s=>e=.returned (iG xm)/\xm<=6/\bQ z s B P D KM ⟨x,x+cnt,sz⟩/\kE w3 s):=by
     obtain⟨i,hi,hn⟩:=HIX.out cnt (Da _);have:=aGu X.out (by show 1<=x+(cnt:Int);omega) hcx hi hn;simp only[hM]at this;exact this
    clear u G T;go_wp2_with fail;refine HMD.out.mono ?_;rintro e w5 ⟨rfl,hx6,hw5,g0⟩;go_wp2;have hEE:aZ xm=iG xm:=by
     match xm,hx6 with
     |0,_=>rfl
     |1,_=>rfl
     |2,_=>rfl
     |3,_=>rfl
     |4,_=>rfl
     |5,_=>rfl
     |6,_=>rfl
    refine bodyPost_ret (v:=.tuple #[.slice a4 I.length C,iG xm]) (by simp[results,results65,go_sem]) rfl ?_;rw[HE.out];by_cases hx:xm=0
    ·subst hx;rw[Ca (by simp)];exact⟨_,_,rfl,hw5,K3.out.trans g0.w,fun _=>⟨rfl,a4,C,rfl,aOu HROW.out g0⟩⟩
    ·rw[Ga hx];exact⟨_,_,by rw[hEE],hw5,K3.out.trans g0.w,fun h=>absurd h hx⟩
section
open Go.Maps
theorem GW {r w:World} {B P D:Nat} {K:kB} {L:zH} (h:bQ r w B P D K L):
 Calls prog 63 #[.pointer (some ⟨P,0,none⟩)] w fun e q=>e=.returned (iG (fB K).2)/\bQ r q B P D (fB K).1 L/\kE w q:=by
 obtain⟨p,A,C,F,G,H,I,_⟩:=dD h.valid;obtain⟨v,g⟩:=h.drive;obtain⟨a,y,rfl,c⟩:=g.files;have l:=bA (fun W (J:Below w.heap.size w W)=>zR a y K.fs DW W (c.later J) (jL p) (by omega));have z:=g.cell4;obtain⟨u,_,_,_⟩:=h.wr.cells;have n:=bA h;have m:=bA g;clear g c p A C F G H I h;go_enter func63,ntmps63;go_wp2_with fail;refine(l.out _ (Below.refl _ _)).mono ?_;rintro e M ⟨rfl,b⟩;have j:=bA (n.out.later b);have i:=bA (oh an j.out (m.out.later b) (by decide) (by decide) (K':=(wD K an).1) (x:=(wD K an).2) rfl);have o:=bA (kE.of b);obtain⟨k,_,_,_⟩:=j.out.wr.cells;clear b l u z n m;cases hq:eF K.fs DW (mA DW K.fs) with
 |false=>
  have E:=bA (show fB K=(K,0) from Ca (by unfold LQ;rw[hq];decide));clear hq i;go_wp2;go_ret;rw[E.out];exact⟨rfl,j.out,o.out⟩
 |true=>
  have E:=bA (show fB K=wD K an from Ga hq);clear hq;go_wp2_with fail;refine i.out.mono ?_;rintro e N ⟨rfl,_,f,d,_⟩;have t:=bA f;have s:=bA (o.out.trans d);clear f d k i;go_wp2;go_ret;rw[E.out];exact⟨rfl,t.out,s.out⟩
def cw:ByteArray:=⟨#[116,104,101,32,99,104,101,99,107,112,111,105,110,116,32,105,115,32,110,111,110,101,32,111,102,32,116,104,105,115,32,99,111,110,102,105,103]⟩
def ou:ByteArray:=⟨#[116,104,101,32,108,111,103,32,100,111,101,115,32,110,111,116,32,103,111,32,111,110,32,102,114,111,109,32,116,104,101,32,115,116,97,116,101]⟩
def GX (a:Nat):Value:=match a with
 |62=>.iface 139 (.string cw)
 |63=>.iface 139 (.string ou)
 |c=>aZ c
theorem dQ {a:Nat} (h:a<=6):GX a=iG a:=by
 match a,h with
 |0,_=>rfl
 |1,_=>rfl
 |2,_=>rfl
 |3,_=>rfl
 |4,_=>rfl
 |5,_=>rfl
 |6,_=>rfl
def fu (a:Nat):Prop:=a<=6\/a=20\/a=21\/a=62\/a=63
theorem OL {a:Nat} (h:fu a) (b:a≠0):∃t,GX a=.iface 139 (.string t):=by
 rcases h with h|rfl|rfl|rfl|rfl
 ·rw[dQ h];match a,h,b with
  |1,_,_=>exact⟨_,rfl⟩
  |2,_,_=>exact⟨_,rfl⟩
  |3,_,_=>exact⟨_,rfl⟩
  |4,_,_=>exact⟨_,rfl⟩
  |5,_,_=>exact⟨_,rfl⟩
  |6,_,_=>exact⟨_,rfl⟩
 all_goals exact⟨_,rfl⟩
theorem ae (a:Nat) (h:fu a) (w:World):Calls prog 31 #[GX a] w fun e b=>e=.returned (.int .i64 a)/\b=w:=by
 have f:Hid (∀W,Calls prog 67 #[GX a,.iface 139 (.string cw)] W fun e b=>e=.returned (.bool (decide (a=62)))/\b=W):=fun W=>by
  rcases h with h|rfl|rfl|rfl|rfl
  ·rw[dQ h,show decide (a=62)=false by simp;omega];exact IF a h _ W (by kernel_rfl) (by kernel_rfl) (by kernel_rfl) (by kernel_rfl) (by kernel_rfl) (by kernel_rfl)
  ·exact gD cY cw false (by kernel_rfl) W
  ·exact gD aDo cw false (by kernel_rfl) W
  ·exact gD cw cw true (by kernel_rfl) W
  ·exact gD ou cw false (by kernel_rfl) W
 have g:Hid (∀W,Calls prog 67 #[GX a,.iface 139 (.string ou)] W fun e b=>e=.returned (.bool (decide (a=63)))/\b=W):=fun W=>by
  rcases h with h|rfl|rfl|rfl|rfl
  ·rw[dQ h,show decide (a=63)=false by simp;omega];exact IF a h _ W (by kernel_rfl) (by kernel_rfl) (by kernel_rfl) (by kernel_rfl) (by kernel_rfl) (by kernel_rfl)
  ·exact gD cY ou false (by kernel_rfl) W
  ·exact gD aDo ou false (by kernel_rfl) W
  ·exact gD cw ou false (by kernel_rfl) W
  ·exact gD ou ou true (by kernel_rfl) W
 have i:Hid (¬a=62->¬a=63->∀W,Calls prog 68 #[GX a] W fun e b=>e=.returned (.int .i64 a)/\b=W):=fun c d W=>by
  rcases h with h|rfl|rfl|rfl|rfl
  ·rw[dQ h];exact vG a h W
  ·exact KH 20 (by decide) W
  ·exact KH 21 (by decide) W
  ·exact absurd rfl c
  ·exact absurd rfl d
 generalize GX a=E at *;clear h;by_cases c:a=62
 ·subst c;go_enter func31,ntmps31;go_wp2_with fail;refine(f.out _).mono ?_;rintro e b ⟨rfl,hw⟩;replace hw:=hw.symm;subst hw;go_wp2;go_ret;exact⟨rfl,rfl⟩
 have j:decide (a=62)=false:=by simpa using c
 rw[j]at f;by_cases d:a=63
 ·subst d;go_enter func31,ntmps31;go_wp2_with fail;refine(f.out _).mono ?_;rintro e b ⟨rfl,hw⟩;replace hw:=hw.symm;subst hw;go_wp2_with fail;refine(g.out _).mono ?_;rintro e b ⟨rfl,hw⟩;replace hw:=hw.symm;subst hw;go_wp2;go_ret;exact⟨rfl,rfl⟩
 have k:decide (a=63)=false:=by simpa using d
 rw[k]at g;have l:=bA (i.out c d);clear i j k c d;go_enter func31,ntmps31;go_wp2_with fail;refine(f.out _).mono ?_;rintro e b ⟨rfl,hw⟩;replace hw:=hw.symm;subst hw;go_wp2_with fail;refine(g.out _).mono ?_;rintro e b ⟨rfl,hw⟩;replace hw:=hw.symm;subst hw;go_wp2_with fail;refine(l.out _).mono ?_;rintro e b ⟨rfl,hw⟩;replace hw:=hw.symm;subst hw;go_wp2;go_ret;exact⟨rfl,rfl⟩
theorem vL.blk {w c:World} (k:vL w c) {b:Nat} {a:Array Value} {t:TypeId} (h:lA w b a t) (d:t≠98/\t≠138/\t≠76):lA c b a t:=k b _ h fun _ _ e=>by cases e;exact d
theorem vL.map {H:Type} {w b:World} (f:vL w b) {P:Program} {k:TypeId} {R:Value->Option (DataW H×List MemPlace)} {m n:Nat} {D:DataW H} (h:w.ownsMap P k R m n D):b.ownsMap P k R m n D:=by
 obtain⟨c,a,d,r⟩:=h;exact⟨c,a,f m _ d (fun _ _ e=>by cases e),r⟩
end
section
open Go.Maps
theorem uz {c:nB} {a:Int} {d:List eA} {r:dE} (h:zT r=false):cE c a d r=(a,d,false):=by
 have b:¬(r.kind=1\/r.kind=2\/r.kind=3):=by unfold zT at h;simpa using h
 unfold cE;rw[Ca (fun e=>b (Ba e)),Ca (fun e=>b (Ea (Ba e))),Ca (fun e=>b (Ea (Ea e)))]
theorem YE (l m:Nat) (a:Option Addr) (cap:Nat) (d:List dE) (c:nB) (n:Int) (p:List eA) (M:Nat) (B:Nat->Prop) (z w:World) (h:yD w B l m c n p M) (h0:Below z.heap.size z w) (hA:∀g,w.heap.size<=g->B g) (y:∀g,B g->z.heap.size<=g) (V:∀W,gA B w W->pK W a d) (hU:dF z) (Q:iB c n p=true) (hlen:d.length<=500) (O:p.length+nA p+2*d.length+fE d<=1100000) (T:∀r∈d,r.n9.size<=1048576/\r.text.size<=1048576) (hM1:1<=M) (hM:M<=900000000):
 Calls prog 106 #[.pointer (some ⟨l,0,none⟩),.slice a d.length cap] w fun e x=>e=.returned (.bool (xE c n p d).2.2)/\((xE c n p d).2.2=true->yD x B l m c (xE c n p d).1 (xE c n p d).2.1 (M+d.length))/\gA B w x:=by
 have HF:=bA V;have HU:=bA hU;have HSZ:=bA T;have F:=bA h;have a0:Hid (∀W,gA B w W->Below z.heap.size z W):=fun W C=>h0.trans (C.below h0.size fun k hk hs=>by have:=y k hs;omega);have X:=bA hA;have Y:=bA y;have K:=bA Q;have E:=bA O;clear V hU T h h0 Q O hA y;go_enter func106,ntmps106;go_wp2;go_loopw [11] (fun i wr=>∃(k:Nat) (j:Int) (f:List eA),k<=d.length/\i=.int .i64 k/\Hid (yD wr B l m c j f (M+k))/\Hid (gA B w wr)/\Hid (iB c j f=true)/\Hid (f.length+nA f+2*(d.length-k)+fE (d.drop k)<=1100000)/\Hid (xE c j f (d.drop k)=xE c n p d)) (fun i _=>d.length-(intOf i).toNat)
 case atStart=>exact⟨0,n,p,Ha _,rfl,F.out,gA.refl _ _,K.out,bA (by simpa using E.out),rfl⟩
 case round=>
  obtain⟨k,j,f,hk,rfl,HL,A,U,HK,G⟩:=hrel;clear F K E;by_cases q:k<d.length
  ·obtain⟨b,o,rfl,hbw,r0,r1,r2,r3⟩:=(HF.out _ A.out).at q;obtain⟨hn,hx⟩:=HSZ.out _ (Db q);have hkb:=HK.out;have hdr:=EK d q;have R:=BQ U.out d[k];have HRS:Hid ((cE c j f d[k]).2.2=true->xE c j f (d.drop k)=xE c (cE c j f d[k]).1 (cE c j f d[k]).2.1 (d.drop (k+1))):=fun h=>WZ q h;have I:Hid ((cE c j f d[k]).2.2=false->(xE c n p d).2.2=false):=fun h=>by rw[<-G.out,XA q h]
   have HRE:Hid ((cE c j f d[k]).2.2=true->xE c j f (d.drop k)=xE c n p d):=fun _=>G.out;have HOK:Hid ((cE c j f d[k]).2.2=true->iB c (cE c j f d[k]).1 (cE c j f d[k]).2.1=true):=fun h=>FK U.out h;have b0:Hid ((cE c j f d[k]).2.1.length+nA (cE c j f d[k]).2.1+2*(d.length-(k+1))+fE (d.drop (k+1))<=1100000):=by show _<=_;omega
   have c0:Hid (zT d[k]=false->(cE c j f d[k]).2.2=false):=fun h=>by rw[uz h]
   have J:Hid (∀W,Calls prog 147 #[.agg #[.int .i64 d[k].kind,.string d[k].n9,.string d[k].text,.int .i64 d[k].num]] W fun e x=>e=.returned (.tuple #[zS d[k],.bool (zT d[k])])/\Below W.heap.size W x):=fun W=>tM d[k] W;have Z:Hid (zT d[k]=true->∀W,Below wr.heap.size wr W->Calls prog 148 #[.pointer (some ⟨l,0,none⟩),zS d[k]] W fun e x=>e=.returned (.bool (cE c j f d[k]).2.2)/\yD x B l m c (cE c j f d[k]).1 (cE c j f d[k]).2.1 (M+k+1)/\gA B w x):=fun t W C=>(so l m d[k] c j f (M+k) B z W (HL.out.later C) (a0.out _ (A.out.trans' (gA.of C))) (fun g hg=>X.out g (Ma (Ma A.out.size C.size) hg)) Y.out HU.out U.out (by omega) (by omega) (by omega) hn hx t).mono fun e x ⟨h1,h2,h3⟩=>⟨h1,h2,(A.out.trans' (gA.of C)).trans' h3⟩
   clear hkb hdr R HL U HK G hn hx;generalize cE c j f d[k]=S at *;obtain⟨n1,t1,b1⟩:=S;go_wp2_with fail;refine(J.out _).mono ?_;rintro e w1 ⟨rfl,L⟩;have v:=pA (cA _ _) L;have u:=bA v;clear L v J r0 r1 r2 r3;cases t:zT d[k]with
   |false=>
    have V:=c0.out t;subst V;have s:=I.out rfl;go_wp2;go_ret;exact⟨kA (by rw[s]),fun e=>(by rw[s]at e;cases e),A.out.trans' (gA.of u.out)⟩
   |true=>
    have X:=bA (Z.out t);go_wp2_with fail;refine(X.out _ u.out).mono ?_;rintro e w2 ⟨rfl,P,N⟩;have HL2:=bA P;have D:=bA N;clear P N;cases b1 with
    |false=>
     have s:=I.out rfl;go_wp2;go_ret;exact⟨kA (by rw[s]),fun e=>(by rw[s]at e;cases e),D.out⟩
    |true=>
     have HO2:=bA (HOK.out rfl);have HR3:Hid _:=(HRS.out rfl).symm.trans (HRE.out rfl);go_wp2;exact⟨⟨k+1,n1,t1,by omega,by go_num,HL2.out,D.out,HO2.out,b0.out,HR3.out⟩,by simp[intOf];omega⟩
  ·obtain rfl:k=d.length:=by omega
   have H:Hid (xE c n p d=(j,f,true)):=by show _=_;rw[<-G.out,Gg];rfl
   clear G;go_wp2;go_ret;exact⟨kA (by rw[H.out]),fun _=>(by rw[H.out];exact HL.out),A.out⟩
end
def aNi (a:List dE):Prop:=∀i (h:i<a.length),a[i].n9.size<=1000000000/\a[i].text.size<=1000000000
theorem jf (v:Int) (w:World):Calls prog 184 #[.int .i64 v] w fun e d=>e=.returned (.string (aB 1 v))/\Below w.heap.size w d:=by
 have c:=bA (cI 1 v w (by omega));generalize aB 1 v=N at *;go_enter func184,ntmps184;go_wp2_with fail;refine c.out.mono ?_;rintro e f ⟨rfl,a⟩;have b:=bA a;clear a;go_wp2;go_ret;exact⟨rfl,b.out⟩
theorem je (v:Int) (w:World):Calls prog 182 #[.int .i64 v] w fun e d=>e=.returned (.string (aB 2 v))/\Below w.heap.size w d:=by
 have c:=bA (cI 2 v w (by omega));generalize aB 2 v=N at *;go_enter func182,ntmps182;go_wp2_with fail;refine c.out.mono ?_;rintro e f ⟨rfl,a⟩;have b:=bA a;clear a;go_wp2;go_ret;exact⟨rfl,b.out⟩
theorem KC (v:Int) (w:World):Calls prog 166 #[.int .i64 v] w fun e d=>e=.returned (.string (aB 8 v))/\Below w.heap.size w d:=by
 have c:=bA (cI 8 v w (by omega));generalize aB 8 v=N at *;go_enter func166,ntmps166;go_wp2_with fail;refine c.out.mono ?_;rintro e f ⟨rfl,a⟩;have b:=bA a;clear a;go_wp2;go_ret;exact⟨rfl,b.out⟩
theorem aAx:(prog.info? 9).map (fun i=>(i.zero,i.size,i.bytes))=some (some (.string ByteArray.empty),1,16):=by kernel_rfl
def sX (a:List dE):List ByteArray:=a.flatMap fun r=>[aB 1 r.kind,xV r.n9,nG r.text,aB 8 r.num]
theorem mh (a:List dE) (k:Nat) (h:k<a.length):sX (a.take (k+1))=sX (a.take k)++[aB 1 a[k].kind,xV a[k].n9,nG a[k].text,aB 8 a[k].num]:=by
 unfold sX;rw[La h,Pg];rfl
theorem NP:∀(a:List dE),hJ (sX a)=oG a
 |[]=>rfl
 |r::q=>by
  have e:sX (r::q)=[aB 1 r.kind,xV r.n9,nG r.text,aB 8 r.num]++sX q:=rfl;rw[e,nJ,NP q,oG];simp[hJ,LP,Ob]
theorem iu (d:Int) (a:Option Addr) (t:Nat) (c:List dE) (w:World) (hf:pK w a c) (hB:aNi c) (hlen:c.length<=2000000):
 Calls prog 146 #[.agg #[.int .i64 d,.slice a c.length t]] w fun e f=>e=.returned (.string (uK d c))/\Below w.heap.size w f:=by
 have z:(d<1\/¬d<1/\d > 1000000000000000\/(¬d<1/\¬d > 1000000000000000)/\(c.length:Int)<1\/(¬d<1/\¬d > 1000000000000000)/\¬(c.length:Int)<1/\(c.length:Int) > 500)\/(¬d<1/\¬d > 1000000000000000)/\¬(c.length:Int)<1/\¬(c.length:Int) > 500:=by omega
 rcases z with z|⟨⟨Z,c2⟩,c3,c4⟩
 ·have E:=bA (CE (lsn:=d) (rs:=c) fun h=>by obtain⟨h1,h2,h3,h4,-⟩:=h;omega);rw[E.out];clear hf hB;rcases z with Z|⟨Z,c2⟩|⟨⟨Z,c2⟩,c3⟩|⟨⟨Z,c2⟩,c3,c4⟩
  all_goals
   go_enter func146,ntmps146;go_wp2;go_ret;exact⟨rfl,cA _ _⟩
 have HF:Hid (pK w a c):=hf;have HB:Hid (aNi c):=hB;have O:Hid _:=fun W=>KC d W;have N:Hid _:=fun W=>je (c.length:Nat) W;have hz8:=bB 8 d;have hz2:=bB 2 (c.length:Nat);have HKB:Hid (oT d c->uK d c=aB 8 d++aB 2 (c.length:Nat)++oG c):=fun h=>MI h;have HOK:Hid (qb c->oT d c):=fun h=>⟨by omega,by omega,by omega,by omega,h⟩
 generalize aB 8 d=N8 at *;generalize aB 2 (c.length:Nat)=N2 at *;clear hf hB;go_enter func146,ntmps146;go_upto_region 3 with fail;have X6:Hid (lA (w.alloc (.cells #[.int .i64 d,.slice a c.length t] 66)) w.heap.size #[.int .i64 d,.slice a c.length t] 66):=lA.new _ _ _;have B0:Hid (Below w.heap.size w (w.alloc (.cells #[.int .i64 d,.slice a c.length t] 66))):=cA _ _;generalize w.alloc (.cells #[.int .i64 d,.slice a c.length t] 66)=J at *;have D:Hid (∀f,Below J.heap.size J f->f.cell? ⟨w.heap.size,0,none⟩=some (.int .i64 d)/\f.cell? ⟨w.heap.size,1,none⟩=some (.slice a c.length t)):=fun f h=>by
  have q:=X6.out.later h;exact⟨q.cell 0,q.cell 1⟩
 obtain⟨x0,x1⟩:=D.out J (Below.refl _ _);go_cut [3] (fun s wx=>∃g,s=.slice (some ⟨g,0,none⟩) 2 2/\J.heap.size<=g/\wx.heap[g]?=some (.cells #[.string N8,.string N2] 9 (0,0))/\Below J.heap.size J wx)
 case first=>
  go_region_held3 (fun f=>f.cell? ⟨w.heap.size,0,none⟩=some (.int .i64 d)/\f.cell? ⟨w.heap.size,1,none⟩=some (.slice a c.length t))
   (first|go_keep|exact D.out _ k4|exact D.out _ k3)
   (first
    |(go_at_call 166;refine(O.out _).mono ?_;rintro e w3 ⟨rfl,U⟩;have k3:Below J.heap.size J w3:=(by exact pA (Below.refl _ _).drew U))
    |(go_at_call 182;refine(N.out _).mono ?_;rintro e w4 ⟨rfl,V⟩;have k4:Below J.heap.size J w4:=(by exact pA k3 V)))
  all_goals(go_wp2_with fail;go_meet)
  all_goals exact⟨_,rfl,k4.size,heap_alloc_new _ _,pA k4 (cA _ _)⟩
 obtain⟨g0,rfl,hg0,C,Y⟩:=hcut;rename World=>w5;have B5:Hid _:=pA B0.out Y;have HBL:Hid (w5.heap[g0]?=some (.cells #[.string N8,.string N2] 9 (0,0))/\w.heap.size<=g0):=⟨C,Ma B0.out.size hg0⟩
 have HK5:Hid _:=fun f h=>D.out f (pA Y h);obtain⟨y0,y1⟩:=HK5.out w5 (Below.refl _ _);clear x0 x1 D X6 C hg0 Y B0 O N HK5;go_wp2;go_loopw [3,5,37] (fun out _ i wr=>∃(k:Nat) (l:List ByteArray) (g cv:Nat),k<=c.length/\i=.int .i64 k/\out=.slice (some ⟨g,0,none⟩) l.length cv/\l.length<=2+4*k/\aK l<=10+k*3000000000/\Hid (l=N8::N2::sX (c.take k))/\Hid (∀j (h:j<c.length),j<k->aM c[j])/\Hid (wr.ownsRow w.heap.size 9 1 (.slice (some ⟨g,0,none⟩) l.length cv) l.length (l.map Value.string))/\Below w.heap.size w wr) (fun _ _ i _=>c.length-(intOf i).toNat)
 case atStart=>
  exact⟨0,[N8,N2],_,_,Ha _,rfl,rfl,by simp,by simp[aK];omega,rfl,fun j _ h=>absurd h (by omega),⟨rfl,Ea ⟨g0,2,_,rfl,HBL.out.2,HBL.out.1,Da _,by simp[maxLen],rfl,rfl⟩⟩,B5.out⟩
 case round=>
  obtain⟨k,l,g,cv,hk,rfl,rfl,hpl,hps,HPS,x,n,p⟩:=hrel;by_cases M:k<c.length
  ·obtain⟨b,o,rfl,hb,c0,Z,c2,c3⟩:=(HF.out.later p).at M;obtain⟨hn1,hn2⟩:=HB.out k M;have y:Hid (∀W,Calls prog 183 #[.agg #[.int .i64 c[k].kind,.string c[k].n9,.string c[k].text,.int .i64 c[k].num]] W fun e f=>e=.returned (.bool (mm c[k]))/\Below W.heap.size W f):=fun W=>aBe c[k] W hn1 hn2;by_cases A:aM c[k]
   ·rw[WN A]at y;have HK1:Hid (∀W,Calls prog 184 #[.int .i64 c[k].kind] W fun e f=>e=.returned (.string (aB 1 c[k].kind))/\Below W.heap.size W f):=fun W=>jf _ W;have HS8:Hid _:=fun W=>PC c[k].n9 W hn1;have HS16:Hid _:=fun W=>iX c[k].text W hn2;have HN8:Hid (∀W,Calls prog 166 #[.int .i64 c[k].num] W fun e f=>e=.returned (.string (aB 8 c[k].num))/\Below W.heap.size W f):=fun W=>KC _ W;have hq1:=bB 1 c[k].kind;have hq2:=yO c[k].n9;have hq3:=jK c[k].text;have hq4:=bB 8 c[k].num;have HA2:Hid (∀j (h:j<c.length),j<k+1->aM c[j]):=fun j h hj=>by
     rcases Ac j k with h1|h1
     ·exact x.out j h h1
     ·obtain rfl:j=k:=by omega
      exact A
    have HT:=mh c k M;have E2:Hid (l++[aB 1 c[k].kind,xV c[k].n9,nG c[k].text,aB 8 c[k].num]=N8::N2::sX (c.take (k+1))):=by show _=_;rw[HT,HPS.out];rfl
    clear HT A x;generalize aB 1 c[k].kind=F at *;generalize xV c[k].n9=G at *;generalize nG c[k].text=H at *;generalize aB 8 c[k].num=I at *;generalize c[k].kind=ki at *;generalize c[k].n9=te at *;generalize c[k].text=tx at *;generalize c[k].num=nu at *;have S:=bA (lA.new wr #[.int .i64 ki,.string te,.string tx,.int .i64 nu] 122);have hgB:=(vN n.out).2.1;have HBW:=bA (cA wr (.cells #[.int .i64 ki,.string te,.string tx,.int .i64 nu] 122));go_wp2_with fail;refine(y.out _).mono ?_;rintro e W ⟨rfl,u⟩;have D:=bA (fun f (h:Below W.heap.size W f)=>(S.out.later u).later h);have X:=pA HBW.out u;have T:=bA (show W.ownsRow w.heap.size 9 1 (.slice (some ⟨g,0,none⟩) l.length cv) l.length (l.map Value.string)/\Below w.heap.size w W from⟨cB n.out X,pA p X⟩);have hBX:=aA (S.out.later u);have hww:=T.out.2.size;clear n S hb c0 Z c2 c3 p u y X HBW;go_wp2_with fail;generalize wr.heap.size=K at *;clear wr;have r:Hid (∀f,Below W.heap.size W f->f.cell? ⟨K,0,none⟩=some (.int .i64 ki)/\f.cell? ⟨K,1,none⟩=some (.string te)/\f.cell? ⟨K,2,none⟩=some (.string tx)/\f.cell? ⟨K,3,none⟩=some (.int .i64 nu)):=fun f h=>⟨(D.out f h).cell 0,(D.out f h).cell 1,(D.out f h).cell 2,(D.out f h).cell 3⟩
    obtain⟨x0,x1,x2,x3⟩:=r.out W (Below.refl _ _);go_region_held3 (fun f=>f.cell? ⟨K,0,none⟩=some (.int .i64 ki)/\f.cell? ⟨K,1,none⟩=some (.string te)/\f.cell? ⟨K,2,none⟩=some (.string tx)/\f.cell? ⟨K,3,none⟩=some (.int .i64 nu))
     (first|go_keep|exact R|exact r.out _ (m.alloc m.size _)|exact r.out _ m|exact r.out _ hc3|exact r.out _ hc2|exact r.out _ hc1)
     ((first
       |(go_at_call 184;refine(HK1.out _).mono ?_;rintro e w1 ⟨rfl,hb1⟩;have hc1:Below W.heap.size W w1:=(Below.refl _ W).drew.trans hb1)
       |(go_at_call 185;refine(HS8.out _).mono ?_;rintro e w2 ⟨rfl,L⟩;have hc2:=pA hc1 L)
       |(go_at_call 186;refine(HS16.out _).mono ?_;rintro e w3 ⟨rfl,U⟩;have hc3:=pA hc2 U)
       |(go_at_call 166;refine(HN8.out _).mono ?_;rintro e w4 ⟨rfl,V⟩;have m:=pA hc3 V)
       |(refine rU (by rfl) _ _ (by rfl) underlying61 aAx rfl (by omega) (by omega) (B:=w.heap.size) (by rfl) (by exact cB (cB T.out.1 m) (cA _ _)) [.string F,.string G,.string H,.string I] (by rfl) rfl (by exact Ea ⟨_,rfl,World.news_of_block (cs:=#[.string F,.string G,.string H,.string I]) (heap_alloc_new _ _)⟩) (by simp[Value.oneCell']) (by omega) (by have:=m.size;simp;omega) ?_;intro g5 P w5 v hB5 hk5 _;have R:=(UM (hk5 K (by have:=m.size;simp;omega) (by omega)) (r.out _ (m.alloc m.size (.cells #[.string F,.string G,.string H,.string I] 9)))))))
    have hle:(l++[F,G,H,I]).length=l.length+4:=by simp
    have hsm:aK (l++[F,G,H,I])=aK l+(F.size+(G.size+(H.size+I.size))):=by rw[bM];simp[aK]
    rw[<-hle]at v |-
    have HO5:=bA (show w5.ownsRow w.heap.size 9 1 (.slice (some ⟨g5,0,none⟩) (l++[F,G,H,I]).length P) (l++[F,G,H,I]).length ((l++[F,G,H,I]).map Value.string)/\Below w.heap.size w w5 from⟨by rw[Qd];exact v,((pA T.out.2 m).alloc (Ma hww m.size) _).trans hB5⟩);clear v hB5 hk5 R;generalize l++[F,G,H,I]=ps5 at *;go_wp2;exact⟨⟨k+1,ps5,g5,P,by omega,by go_num,rfl,by omega,by omega,E2.out,HA2.out,HO5.out.1,HO5.out.2⟩,by simp[intOf];omega⟩
   ·have E:Hid _:=vt M A d;rw[pZ A]at y;generalize c[k].kind=ki at *;generalize c[k].n9=te at *;generalize c[k].text=tx at *;generalize c[k].num=nu at *;clear A x n;go_wp2_with fail;refine(y.out _).mono ?_;rintro e W ⟨rfl,u⟩;have BW:Hid _:=pA (pA p (cA _ _)) u;clear u y;go_wp2;go_ret;exact⟨by rw[E.out];rfl,BW.out⟩
  ·have Q:qb c:=fun j h=>x.out j h (by omega);have E2:Hid (hJ l=uK d c):=by
    show _=_;rw[HPS.out,Pa (by omega),hJ,hJ,NP,HKB.out (HOK.out Q),Ob]
   obtain⟨hcv,hg,z⟩:=vN n.out;have HJ:Hid (Calls prog 169 #[.slice (some ⟨g,0,none⟩) l.length cv] wr fun e f=>e=.returned (.string (hJ l))/\Below wr.heap.size wr f):=bR g l.length cv l wr rfl z hg hcv (by omega) (by omega);rw[E2.out]at HJ;clear n z Q;go_wp2_with fail;refine HJ.out.mono ?_;rintro e w2 ⟨rfl,L⟩;have B2:Hid _:=pA p L;clear L;go_wp2;go_ret;exact⟨rfl,B2.out⟩
