import Derived.Test.YtabgbmfcbobamaaGreatDoorJ20
set_option maxRecDepth 100000
set_option maxHeartbeats 8000000
namespace Go.Proofs.YtabgbmfcbobamaaGreatDoor
open Go.RowKit Tryz
section
open Go.Maps
theorem ft (a:List lA) (k:Nat) (d:k<a.length) (b:jC (·.s) (a.take (k+1))):
 DataW.put (rH ((a.take k).map fun p=>(p.s,TN p.n))) (kL a[k].s) (TN a[k].n)=rH ((a.take (k+1)).map fun p=>(p.s,TN p.n)):=by
 obtain⟨c,_⟩:=KM d b;have:=gc (key:=fun p:lA=>p.s) (fun p=>TN p.n) a[k] (py k (l:=a.take (k+1)) b);rw[List.take_take,Nat.min_eq_left (by omega)]at this;rw[this,c]
theorem LD (x:Nat) (a:Option Addr) (cap:Nat) (f:List lA) (t:dA) (S:Nat->Prop) (M:Nat) (Y w:World) (h:gD w S x { t with m9:=[] } M) (m:Below Y.heap.size Y w) (hU:xI Y) (hp:yA Y a f) (hS:∀g,S g->Y.heap.size<=g) (v:∀i (h:i<f.length),f[i].s.size<=1000000000) (hl:f.length<=1000000000):
 Calls prog 154 #[.pointer (some ⟨x,0,none⟩),.slice a f.length cap] w fun e w'=>e=.returned (.bool (kK f))/\(kK f=true->gD w' (fun g=>S g\/w.heap.size<=g) x { t with m9:=f} M)/\gA S w w':=by
 have HI:Hid (gD w S x { t with m9:=[] } M):=h;have H0:Hid _:=m;have HU:Hid (xI Y):=hU;have HPI:Hid (yA Y a f):=hp;have HSS:Hid _:=hS;have HBB:Hid _:=v;clear h m hU hp hS v;go_enter func154,ntmps154;go_wp2;go_loopw [5,6,9] (fun _ _ j wr=>∃k:Nat,k<=f.length/\j=.int .i64 k/\iH (kJ f) k=true/\gD wr (fun g=>S g\/w.heap.size<=g) x { t with m9:=f.take k} M/\gA S w wr) (fun _ _ j _=>f.length-(intOf j).toNat)
 case atStart=>exact⟨0,La _,rfl,rfl,HI.out.keep (fun g _ hs=>⟨rfl,Ca hs⟩),gA.refl _ _⟩
 case round=>
  obtain⟨k,hk,rfl,hok,G,X⟩:=hrel;have HOK:Hid _:=hok;have K:Hid (gD wr (fun g=>S g\/w.heap.size<=g) x { t with m9:=f.take k} M):=G;have R:Hid _:=X;have B0:Hid _:=H0.out.trans (X.below H0.out.size (fun k hk hs=>by have:=HSS.out k hs;omega));clear hok G X;by_cases p:k<f.length
  ·obtain⟨pb,po,rfl,hpl,c0,c1⟩:=(HPI.out.later B0.out).at p;have HMF:Hid (kJ f k=false->kK f=false):=fun h=>kM h p;have q:Hid _:=bW p;have hsz:=HBB.out k p;have E:Hid (0<k->∃l:ByteArray,sI f k=wH l f[k].s/\wr.cell? ⟨pb,po+(k-1)*2,none⟩=some (.string l)):=fun m=>by
    refine⟨_,eQ m p,?_⟩;obtain⟨b',o',e,_,u0,_⟩:=(HPI.out.later B0.out).at (i:=k-1) (by omega)
    simp only[Pa,Addr.mk.injEq,Yb]at e;rw[e.1,e.2];exact u0
   have O:Hid (k=0->sI f k=true):=fun m=>by subst m;rfl
   have HMP:=ft f k p;have HTK:Hid (kJ f k=true->iH (kJ f) (k+1)=true/\jC (·.s) (f.take (k+1))):=fun h=>by
    have h1:iH (kJ f) (k+1)=true:=by rw[lI,HOK.out,h];rfl
    exact⟨h1,DV h1 (by omega)⟩
   have C:Hid _:=HMP;clear HMP;have N:Hid _:=fun W hW=>DN f[k].s W hsz hW;generalize f[k]=P at *;go_upto_region 4 with fail;have z:Hid (eA (wr.alloc (.cells #[.string P.s,.int .i64 P.n] 107)) wr.heap.size #[.string P.s,.int .i64 P.n] 107):=eA.new _ _ _;have y:Hid (Below wr.heap.size wr (wr.alloc (.cells #[.string P.s,.int .i64 P.n] 107))):=cA _ _;have u:Hid (0<k->∃l:ByteArray,sI f k=wH l P.s/\(wr.alloc (.cells #[.string P.s,.int .i64 P.n] 107)).cell? ⟨pb,po+(k-1)*2,none⟩=some (.string l)):=fun m=>by
    obtain⟨l,e1,e2⟩:=E.out m;exact⟨l,e1,((cA _ _).cell hpl).trans e2⟩
   generalize wr.alloc (.cells #[.string P.s,.int .i64 P.n] 107)=W at *;have HIW:Hid (gD W (fun g=>S g\/w.heap.size<=g) x { t with m9:=f.take k} M):=K.out.later y.out;have HTW:Hid _:=R.out.trans' (gA.of y.out);have J:Hid _:=B0.out.trans (y.out.mono B0.out.size);generalize wr.heap.size=mb at *;clear c0 c1 E hpl K R B0 y wr;go_cut [38] (fun s wx=>s=.bool (!(kJ f k))/\Below W.heap.size W wx)
   case first=>
    have d0:=fB.cells (show W.cell? ⟨mb,0,none⟩=some (.string P.s) from z.out.cell 0);have d1:=fB.cells (show W.cell? ⟨mb,1,none⟩=some (.int .i64 P.n) from z.out.cell 1);have hnel:=fB.there W;have r:Hid _:=fun(x:fB W)=>N.out _ (HU.out.later (J.out.trans (x.h.mono J.out.size)));have L:Hid _:=fun W=>aE P.n W;clear N;have T:(∃l:ByteArray,(0:Int)<k/\0<k/\W.cell? ⟨pb,po+(k-1)*2,none⟩=some (.string l)/\Op.bytesLess l.toList P.s.toList=false/\Hid (kJ f k=false))\/sI f k=true/\(decide ((0:Int)<k)=false/\decide (0<k)=false\/∃l:ByteArray,(0:Int)<k/\0<k/\W.cell? ⟨pb,po+(k-1)*2,none⟩=some (.string l)/\Op.bytesLess l.toList P.s.toList=true):=by
     by_cases m:0<k
     ·obtain⟨l,hp,F⟩:=u.out m;cases v:Op.bytesLess l.toList P.s.toList
      ·exact Ca ⟨l,by omega,m,F,v,by show _=_;rw[q.out,hp,wH,v];simp⟩
      ·exact Ja ⟨hp.trans v,Ja ⟨l,by omega,m,F,v⟩⟩
     ·exact Ja ⟨O.out (by omega),Ca ⟨by simp;omega,by simp;omega⟩⟩
    rcases T with⟨l,m,h0',F,v,HV⟩|⟨hpt,T⟩
    ·have d3:=fB.cells F;clear F;refine eB (by kernel_rfl) (by kernel_rfl) ?_;repeat (go_big_quiet_step (first|(go_at_call 162;exact pB (r.out _))|(go_at_call 150;exact lD (L.out _))))
     refine wpQuiet_nil ?_;rintro _ ⟨x,rfl⟩;go_wp2_with fail;go_meet;exact⟨by rw[HV.out];rfl,x.h⟩
    have hf:∃V,Hid (kJ f k=V)/\(cE P.s=false/\V=false\/cE P.s=true/\xA P.n 0 1000000=V):=by
     have hm:=q.out;rw[hpt]at hm;cases b:cE P.s
     ·exact⟨false,by show _=_;rw[hm,b];simp,Ca ⟨rfl,rfl⟩⟩
     ·exact⟨_,rfl,Ja ⟨rfl,by rw[hm,b];simp⟩⟩
    clear u O q hpt;obtain⟨V,HV,hf⟩:=hf;rcases T with⟨hd,hd'⟩|⟨l,m,h0',F,v⟩
    rotate_left;have d3:=fB.cells F;clear F;all_goals
     rcases hf with⟨b,rfl⟩|⟨b,d⟩
     rotate_left;rw[d]at L;cases V
     all_goals
      rw[b]at r;clear b;try clear d
      refine eB (by kernel_rfl) (by kernel_rfl) ?_;repeat (go_big_quiet_step (first|(go_at_call 162;exact pB (r.out _))|(go_at_call 150;exact lD (L.out _))))
      refine wpQuiet_nil ?_;rintro _ ⟨x,rfl⟩;go_wp2_with fail;go_meet;exact⟨by rw[HV.out];rfl,x.h⟩
   obtain⟨rfl,B⟩:=hcut;rename World=>Z;have MB7:Hid (eA Z mb #[.string P.s,.int .i64 P.n] 107):=z.out.later B;have HI7:Hid (gD Z (fun g=>S g\/w.heap.size<=g) x { t with m9:=f.take k} M):=HIW.out.later B;have HT7:Hid _:=HTW.out.trans' (gA.of B);clear B z HIW HTW J u N;by_cases c:kJ f k=false
   ·have HF4:Hid _:=HMF.out c;rw[c];clear c;go_wp2;go_ret;exact⟨jA HF4.out.symm,fun h=>absurd h (by rw[HF4.out];simp),HT7.out⟩
   ·have A:kJ f k=true:=by simpa using c
    obtain⟨g1,g2⟩:=HTK.out A;have hbn:xA P.n 0 1000000=true:=by
     have:=q.out;rw[A]at this;cases v:xA P.n 0 1000000 with
     |true=>rfl
     |false=>rw[v]at this;simp at this
    obtain⟨hbn0,hbn1⟩:=dK hbn;have G1:Hid _:=g1;have H:=C.out g2;rw[A];clear c A g1 HMF q O HTK C;obtain⟨lm,sm,cm,iv,Q,hs,D,hI⟩:=HI7.out;have hkey:keyOf prog 9 (.string P.s)=some (kL P.s):=UE (by unfold maxLen;omega);obtain⟨w8,run8,I,o⟩:=hI.lims.drew.update YY underlying236 (by simp only[Hb];unfold maxLen;omega) (val:=.int .i64 P.n) hkey (plainElem_int underlying3 (WalkArith.wf_i64 (by omega)));have x0:Z.cell? ⟨x,1,none⟩=some (.map (some lm)):=hI.blk.cell 1;have x1:Z.cell? ⟨mb,0,none⟩=some (.string P.s):=MB7.out.cell 0;have x2:Z.cell? ⟨mb,1,none⟩=some (.int .i64 P.n):=MB7.out.cell 1;go_wp2_with fail;go_region
    have U:gA (·=lm) Z w8:=(gA.grown (a:=Z) ⟨o.os,o.tape,o.output,o.size,o.block⟩).mono fun i _ e=>by simp only[Pa]at e;exact e.symm
    have HN:Hid (gD w8 (fun g=>S g\/w.heap.size<=g) x { t with m9:=f.take (k+1) } M):=hI.newLims U I H g2;have HT8:Hid _:=HT7.out.trans (U.mono fun i _ e=>by subst e;exact hI.sl);clear hI I o U H g2 x0 x1 x2 run8 hbn;go_wp2;exact⟨⟨k+1,by omega,by go_num,G1.out,HN.out,HT8.out⟩,by simp[intOf];omega⟩
  ·have ek:k=f.length:=by omega
   have HEND:Hid (kK f=true):=by have:=HOK.out;rw[ek]at this;exact this
   have HIE:Hid (gD wr (fun g=>S g\/w.heap.size<=g) x { t with m9:=f} M):=by have:=K.out;rw[ek,Wb]at this;exact this
   clear ek;go_wp2;go_ret;exact⟨jA HEND.out.symm,fun _=>HIE.out,R.out⟩
end
section
open Go.Maps
theorem ot (a:List mA) (h:∀l∈a,l.value.size<=1000000):(gI a).size<=1000000:=by
 induction a with
 |nil=>simp[gI]
 |cons l r c=>
  rw[gI];split
  ·exact h l (Pb ..)
  ·exact c fun q b=>h q (Cb _ b)
theorem on (s:ByteArray):(vD s).size<=maxLen:=by
 have h:∀l∈(dE s).1,l.value.size<=1000000:=fun l a=>by
  cases hd:(dE s).2 with
  |false=>rw[(IM hd).1]at a;simp at a
  |true=>
   obtain⟨i,b,rfl⟩:=Ob a;have:=(uW (SR hd).1 i b).2;omega
 have:=ot _ h;unfold vD maxLen;omega
def GZ (c:vB) (a:Int) (m:Nat):Array Value:=#[.int .i64 c.w,.int .i64 c.tl,.int .i64 c.ml,.int .i64 c.sh,.int .i64 c.ha,.int .i64 c.sg,.int .i64 a,.map (some m)]
theorem XT (l m:Nat) (c:vB) (a:Int) (w:World) (h:eA w l (GZ c a m) 218) (g:0<=a) (i:a<=1000000000000) (b:1<=c.w) (d:c.w<=1000000000):
 Calls prog 164 #[.pointer (some ⟨l,0,none⟩)] w fun e f=>e=.returned (.int .i64 (a-c.w))/\Below w.heap.size w f:=by
 have j:w.cell? ⟨l,6,none⟩=some (.int .i64 a):=h.cell 6;have k:w.cell? ⟨l,0,none⟩=some (.int .i64 c.w):=h.cell 0;clear h;go_enter func164,ntmps164;go_wp2_with fail;go_quiet (fail)
 go_wp2;go_ret;exact⟨rfl,below_drewN (Below.refl _ _) _⟩
theorem LE (l m x:Nat) (a:Option Addr) (cap:Nat) (r:List lA) (t:dA) (c:vB) (q:Int) (S:Nat->Prop) (M:Nat) (w0 w:World) (hl:eA w l (GZ c q m) 218) (hSl:¬S l) (h:gD w S x { t with s9:=[] } M) (v:Below w0.heap.size w0 w) (hU:xI w0) (hp:yA w0 a r) (hS:∀g,S g->w0.heap.size<=g)
 (G:∀i (h:i<r.length),r[i].s.size<=1000000000) (hlen:r.length<=500000000) (hM:M<=500000000) (h1:0<=q) (h2:q<=1000000000000) (hw0:1<=c.w) (hw1:c.w<=1000000000):
 Calls prog 155 #[.pointer (some ⟨l,0,none⟩),.pointer (some ⟨x,0,none⟩),.slice a r.length cap] w fun e O=>e=.returned (.bool (uJ c.w q r))/\(uJ c.w q r=true->gD O (fun g=>S g\/w.heap.size<=g) x { t with s9:=r} (M+r.length))/\gA S w O:=by
 have HLB:Hid (eA w l (GZ c q m) 218):=hl;have HSL:Hid (¬S l):=hSl;have HI:Hid (gD w S x { t with s9:=[] } M):=h;have H0:Hid _:=v;have HU:Hid (xI w0):=hU;have HPI:Hid (yA w0 a r):=hp;have HSS:Hid _:=hS;have HBB:Hid _:=G;clear h v hU hp hS G hl hSl;go_enter func155,ntmps155;go_wp2;go_loopw [7,8,9,12] (fun _ _ _ j wr=>∃k:Nat,k<=r.length/\j=.int .i64 k/\iH (uG c.w q r) k=true/\gD wr (fun g=>S g\/w.heap.size<=g) x { t with s9:=r.take k} (M+k)/\gA S w wr) (fun _ _ _ j _=>r.length-(intOf j).toNat)
 case atStart=>exact⟨0,La _,rfl,rfl,HI.out.keep (fun g _ N=>⟨rfl,Ca N⟩),gA.refl _ _⟩
 case round=>
  obtain⟨k,hk,rfl,hok,L,b0⟩:=hrel;have HOK:Hid _:=hok;have R:Hid (gD wr (fun g=>S g\/w.heap.size<=g) x { t with s9:=r.take k} (M+k)):=L;have E:Hid _:=b0;have B0:Hid _:=H0.out.trans (b0.below H0.out.size (fun k hk N=>by have:=HSS.out k N;omega));clear hok L b0;by_cases A:k<r.length
  ·obtain⟨pb,po,rfl,hpl,c0,c1⟩:=(HPI.out.later B0.out).at A;have HMF:Hid (uG c.w q r k=false->uJ c.w q r=false):=fun h=>kM h A;have C:Hid (uG c.w q r k=(sI r k&&eI r[k].s&&xA r[k].n 0 q&&decide (q-r[k].n<c.w))):=vS A;have hsz:=HBB.out k A;have J:Hid (0<k->∃u:ByteArray,sI r k=wH u r[k].s/\wr.cell? ⟨pb,po+(k-1)*2,none⟩=some (.string u)):=fun v=>by
    refine⟨_,eQ v A,?_⟩;obtain⟨b',o',e,_,u0,_⟩:=(HPI.out.later B0.out).at (i:=k-1) (by omega)
    simp only[Pa,Addr.mk.injEq,Yb]at e;rw[e.1,e.2];exact u0
   have V:Hid (k=0->sI r k=true):=fun v=>by subst v;rfl
   have HTK:Hid (uG c.w q r k=true->iH (uG c.w q r) (k+1)=true/\bB (·.s) r[k] (r.take k)=r.take (k+1)/\xC (·.s) r[k].s (r.take k)=none):=fun h=>by
    have h1:iH (uG c.w q r) (k+1)=true:=by rw[lI,HOK.out,h];rfl
    exact⟨h1,KM (key:=fun p:lA=>p.s) A (EE h1 (by omega))⟩
   have HLW:Hid (eA wr l (GZ c q m) 218):=E.out.blk HLB.out HSL.out;have HMT:Hid (∀W,xI W->Calls prog 163 #[.string r[k].s] W fun e O=>e=.returned (.string (vD r[k].s))/\Below W.heap.size W O):=fun W hW=>YG r[k].s W hsz hW;have hms:=on r[k].s;have HTL:Hid ((r.take k).length<=1000000000):=by show _<=_;rw[Hb];omega
   generalize r[k]=P at *;go_upto_region 4 with fail;have X:Hid (eA (wr.alloc (.cells #[.string P.s,.int .i64 P.n] 109)) wr.heap.size #[.string P.s,.int .i64 P.n] 109):=eA.new _ _ _;have y:Hid (Below wr.heap.size wr (wr.alloc (.cells #[.string P.s,.int .i64 P.n] 109))):=cA _ _;have x0:(wr.alloc (.cells #[.string P.s,.int .i64 P.n] 109)).cell? ⟨wr.heap.size,0,none⟩=some (.string P.s):=X.out.cell 0;generalize wr.alloc (.cells #[.string P.s,.int .i64 P.n] 109)=W0 at *;go_wp2_with fail;refine(HMT.out _ (HU.out.later (B0.out.trans (y.out.mono B0.out.size)))).mono ?_;rintro e W ⟨rfl,z⟩;have B:Hid (0<k->∃u:ByteArray,sI r k=wH u P.s/\W.cell? ⟨pb,po+(k-1)*2,none⟩=some (.string u)):=fun v=>by
    obtain⟨u,e1,e2⟩:=J.out v;exact⟨u,e1,((nA y.out z).cell hpl).trans e2⟩
   have F:Hid (eA W wr.heap.size #[.string P.s,.int .i64 P.n] 109):=X.out.later z;have HIW:Hid (gD W (fun g=>S g\/w.heap.size<=g) x { t with s9:=r.take k} (M+k)):=R.out.later (nA y.out z);have HTW:Hid _:=E.out.trans' (gA.of (nA y.out z));have U:Hid (eA W l (GZ c q m) 218):=HLW.out.later (nA y.out z);generalize wr.heap.size=mb at *;clear c0 c1 J hpl R E B0 y z x0 X HLW HMT wr W0;go_upto_region 5 with fail;go_cut [53] (fun s wx=>s=.bool (!(uG c.w q r k))/\Below W.heap.size W wx)
   case first=>
    have d0:=fB.cells (show W.cell? ⟨mb,0,none⟩=some (.string P.s) from F.out.cell 0);have d1:=fB.cells (show W.cell? ⟨mb,1,none⟩=some (.int .i64 P.n) from F.out.cell 1);have d2:=fB.cells (show W.cell? ⟨l,6,none⟩=some (.int .i64 q) from U.out.cell 6);have hnel:=fB.there W;have T:Hid _:=fun W=>oE P.n q W;have HEX:Hid _:=fun(x:fB W)=>XT l m c q x.w' (U.out.later x.h) h1 h2 hw0 hw1;have a0:(∃u:ByteArray,(0:Int)<k/\0<k/\W.cell? ⟨pb,po+(k-1)*2,none⟩=some (.string u)/\Op.bytesLess u.toList P.s.toList=false/\Hid (uG c.w q r k=false))\/sI r k=true/\(decide ((0:Int)<k)=false/\decide (0<k)=false\/∃u:ByteArray,(0:Int)<k/\0<k/\W.cell? ⟨pb,po+(k-1)*2,none⟩=some (.string u)/\Op.bytesLess u.toList P.s.toList=true):=by
     by_cases v:0<k
     ·obtain⟨u,hp,K⟩:=B.out v;cases G:Op.bytesLess u.toList P.s.toList
      ·exact Ca ⟨u,by omega,v,K,G,by show _=_;rw[C.out,hp,wH,G];simp⟩
      ·exact Ja ⟨hp.trans G,Ja ⟨u,by omega,v,K,G⟩⟩
     ·exact Ja ⟨V.out (by omega),Ca ⟨by simp;omega,by simp;omega⟩⟩
    rcases a0 with⟨u,v,h0',K,G,HV⟩|⟨hpt,a0⟩
    ·have d3:=fB.cells K;clear K;refine eB (by kernel_rfl) (by kernel_rfl) ?_;repeat (go_big_quiet_step (first|(go_at_call 46;exact lD (T.out _))|(go_at_call 164;exact pB (HEX.out _))))
     refine wpQuiet_nil ?_;rintro _ ⟨x,rfl⟩;go_wp2_with fail;go_meet;exact⟨by rw[HV.out];rfl,x.h⟩
    have hf:(vD P.s).toList.isEmpty=true/\Hid (uG c.w q r k=false)\/(vD P.s).toList.isEmpty=false/\(xA P.n 0 q=false/\Hid (uG c.w q r k=false)\/(xA P.n 0 q=true/\0<=P.n/\P.n<=q)/\(P.n<=q-c.w/\Hid (uG c.w q r k=false)\/¬P.n<=q-c.w/\decide (P.n<=q-c.w)=false/\Hid (uG c.w q r k=true))):=by
     have Z:=C.out;rw[hpt,eI]at Z;cases o:(vD P.s).toList.isEmpty
     ·rw[o]at Z;refine Ja ⟨rfl,?_⟩;cases b:xA P.n 0 q
      ·exact Ca ⟨rfl,by show _=_;rw[Z,b];simp⟩
      ·refine Ja ⟨⟨rfl,dK b⟩,?_⟩;rw[b]at Z;by_cases d:P.n<=q-c.w
       ·exact Ca ⟨d,by show _=_;rw[Z];simp;omega⟩
       ·exact Ja ⟨d,by simpa using d,by show _=_;rw[Z];simp;omega⟩
     ·exact Ca ⟨rfl,by show _=_;rw[Z,o];simp⟩
    clear B V C hpt;rcases a0 with⟨hd,hd'⟩|⟨u,v,h0',K,G⟩
    rotate_left;have d3:=fB.cells K;clear K;all_goals
     rcases hf with⟨o,HV⟩|⟨o,⟨b,HV⟩|⟨⟨b,r0,r1⟩,⟨d,HV⟩|⟨d,hx2,HV⟩⟩⟩
     all_goals
      try rw[b]at T
      try clear b
      refine eB (by kernel_rfl) (by kernel_rfl) ?_;repeat (go_big_quiet_step (first|(go_at_call 46;exact lD (T.out _))|(go_at_call 164;exact pB (HEX.out _))))
      refine wpQuiet_nil ?_;rintro _ ⟨x,rfl⟩;go_wp2_with fail;go_meet;exact⟨by rw[HV.out];rfl,x.h⟩
   obtain⟨rfl,H⟩:=hcut;rename World=>Q;have MB7:Hid (eA Q mb #[.string P.s,.int .i64 P.n] 109):=F.out.later H;have HI7:Hid (gD Q (fun g=>S g\/w.heap.size<=g) x { t with s9:=r.take k} (M+k)):=HIW.out.later H;have D:Hid _:=HTW.out.trans' (gA.of H);clear H F HIW HTW B U;by_cases f:uG c.w q r k=false
   ·have HF4:Hid _:=HMF.out f;rw[f];clear f;go_wp2;go_ret;exact⟨jA HF4.out.symm,fun h=>absurd h (by rw[HF4.out];simp),D.out⟩
   ·have Y:uG c.w q r k=true:=by simpa using f
    obtain⟨g1,g2,g3⟩:=HTK.out Y;have G1:Hid _:=g1;have G2:Hid _:=g2;have I:Hid (Calls prog 165 #[.pointer (some ⟨x,0,none⟩),.string P.s,.string (vD P.s),.int .i64 P.n] Q fun e O=>e=.returned (.tuple #[])/\gD O (fun g=>(S g\/w.heap.size<=g)\/Q.heap.size<=g) x { t with s9:=bB (·.s) ⟨P.s,P.n⟩ (r.take k) } (M+k+1)/\gA (fun g=>S g\/w.heap.size<=g) Q O):=
     ze x { t with s9:=r.take k} P.s P.n _ (M+k) Q HI7.out g3 (by unfold maxLen;omega) hms (by omega) HTL.out
    have x1:Q.cell? ⟨mb,0,none⟩=some (.string P.s):=MB7.out.cell 0;have x2:Q.cell? ⟨mb,1,none⟩=some (.int .i64 P.n):=MB7.out.cell 1;rw[Y];clear f Y g1 g2 g3 HMF C V HTK;go_wp2_with fail;refine I.out.mono ?_;rintro e w8 ⟨rfl,hi8,ht8⟩;have HN:Hid (gD w8 (fun g=>S g\/w.heap.size<=g) x { t with s9:=r.take (k+1) } (M+(k+1))):=by
     have:=hi8.keep (w':=w8) (S':=fun g=>S g\/w.heap.size<=g) (fun g _ N=>⟨rfl,by rcases N with N|N;exact N;exact Ja (by have:=D.out.size;omega)⟩);rw[show(⟨P.s,P.n⟩:lA)=P from rfl,G2.out]at this;exact this
    have HT8:Hid _:=D.out.trans ht8;clear hi8 ht8 I x1 x2 HI7 D;go_wp2;exact⟨⟨k+1,by omega,by go_num,G1.out,HN.out,HT8.out⟩,by simp[intOf];omega⟩
  ·have ek:k=r.length:=by omega
   have HEND:Hid (uJ c.w q r=true):=by have:=HOK.out;rw[ek]at this;exact this
   have HIE:Hid (gD wr (fun g=>S g\/w.heap.size<=g) x { t with s9:=r} (M+r.length)):=by have:=R.out;rw[ek,Wb]at this;exact this
   clear ek;go_wp2;go_ret;exact⟨jA HEND.out.symm,fun _=>HIE.out,E.out⟩
end
section
open Go.Maps
structure RP (w:World) (B:Nat→Prop) (T:Nat→Option Nat) (l m:Nat) (c:vB) (now:Int) (L:List (dA×Nat)) (M:Nat):Prop where
 blk:eA w l (GZ c now m) 218
 ten:w.ownsMap prog 9 zO m L.length (rH (L.map fun p=>(p.1.name,zP p.2)))
 rise:jC (fun p:dA×Nat=>p.1.name) L
 idx:∀p∈L,gD w (fun g=>B g∧T g=some p.2) p.2 p.1 M
 nd:(L.map (·.2)).Nodup
 tl:T l=none
 tm:T m=none
 lB:B l
 mB:B m
def jI (w:World) (B:Nat->Prop) (l m:Nat) (c:vB) (a:Int) (b:List dA) (M:Nat):Prop:=∃T L,RP w B T l m c a L M/\L.map (·.1)=b
theorem RP.lm {w:World} {B:Nat->Prop} {T:Nat->Option Nat} {l m:Nat} {c:vB} {a:Int} {L:List (dA×Nat)} {M:Nat} (h:RP w B T l m c a L M):m≠l:=fE h.ten h.blk
theorem RP.keep {w w':World} {B:Nat->Prop} {T:Nat->Option Nat} {l m:Nat} {c:vB} {b:Int} {L:List (dA×Nat)} {M:Nat} (h:RP w B T l m c b L M) (d:∀g,g<w.heap.size->B g->w'.heap[g]?=w.heap[g]?):RP w' B T l m c b L M:=
 { h with
  blk:=(d l (aA h.blk) h.lB).trans h.blk
  ten:=by
   have e:=h.ten.lt;obtain⟨i,a,j,r⟩:=h.ten;exact⟨i,a,(d m e h.mB).trans j,r⟩
  idx:=fun p n=>(h.idx p n).keep fun g k f=>⟨d g k f.1,f⟩ }
theorem jI.later {w d:World} {B:Nat->Prop} {l m:Nat} {c:vB} {a:Int} {b:List dA} {M:Nat} (h:jI w B l m c a b M) (f:Below w.heap.size w d):jI d B l m c a b M:=by
 obtain⟨T,L,h,e⟩:=h;exact⟨T,L,h.keep fun g i _=>f.block g i,e⟩
theorem vr {w k H D z:World} {B:Nat->Prop} {T:Nat->Option Nat} {l m x n:Nat} {c:vB} {u:Int} {L:List (dA×Nat)} {M M':Nat} {t:dA} (h:RP w B T l m c u L M) (I:∀g,w.heap.size<=g->B g) (q:xC (fun p:dA×Nat=>p.1.name) t.name L=none)
 (E:Below w.heap.size w k) (F:Below k.heap.size k H) (R:k.heap.size<=x) (b:gA (·=m) H D) (v:D.ownsMap prog 9 zO m n (DataW.put (rH (L.map fun p=>(p.1.name,zP p.2))) (kL t.name) (zP x)))
 (d:gA (fun g=>k.heap.size<=g) D z) (A:gD z (fun g=>k.heap.size<=g) x t M') (J:M'<=M):
 jI z B l m c u ((bB (fun p:dA×Nat=>p.1.name) (t,x) L).map (·.1)) M:=by
 have G:=aA h.blk;have K:=h.ten.lt;have O:=E.size;have P:=F.size;have Q:=b.size;have o:∀p,p∈bB (fun p:dA×Nat=>p.1.name) (t,x) L->p=(t,x)\/p∈L:=fun p i=>xH i;have j:=DM (key:=fun p:dA×Nat=>p.1.name) (a:=(t,x)) q;have f:∀g,g<w.heap.size->g≠m->z.heap[g]?=w.heap[g]?:=fun g y C=>by
  rw[d.block g (by omega) (by omega),b.block g (by omega) C,F.block g (by omega),E.block g y]
 have r:DataW.put (rH (L.map fun p=>(p.1.name,zP p.2))) (kL t.name) (zP x)=rH ((bB (fun p:dA×Nat=>p.1.name) (t,x) L).map fun p=>(p.1.name,zP p.2)):=
  gc (key:=fun p:dA×Nat=>p.1.name) (fun p=>zP p.2) (t,x) h.rise
 refine⟨fun g=>if g<w.heap.size then T g else some x,_,?_,rfl⟩;exact {
  blk:=(f l G h.lm.symm).trans h.blk
  ten:=by
   have:=aDc (d.map v (by omega));rw[r,VE]at this;exact this
  rise:=wP h.rise
  idx:=fun p i=>by
   rcases o p i with rfl|i
   ·refine(A.mono J).keep fun g _ s=>⟨rfl,I g (by omega),?_⟩
    show(if g<w.heap.size then T g else some x)=some x;rw[Oa (by omega)]
   ·refine(h.idx p i).keep fun g y s=>⟨f g y (fun e=>by rw[e,h.tm]at s;cases s.2),s.1,?_⟩
    show(if g<w.heap.size then T g else some x)=_;rw[Qa y];exact s.2
  nd:=by
   rw[(j.map _).nodup_iff,Lb,List.nodup_cons];refine⟨fun N=>?_,h.nd⟩;obtain⟨p,i,e⟩:=Ie.1 N;have:=(h.idx p i).lt;simp only at e;omega
  tl:=by show(if l<w.heap.size then T l else _)=none;rw[Qa G];exact h.tl
  tm:=by show(if m<w.heap.size then T m else _)=none;rw[Qa K];exact h.tm
  lB:=h.lB
  mB:=h.mB}
theorem nh {L:List (dA×Nat)} {k:ByteArray} (h:xC (·.name) k (L.map (·.1))=none):xC (fun p:dA×Nat=>p.1.name) k L=none:=by
 have:=PK (key:=fun p:dA×Nat=>p.1.name) (key':=fun t:dA=>t.name) (fun p=>p.1) (fun _=>rfl) k L;rw[h]at this;cases hg:xC (fun p:dA×Nat=>p.1.name) k L with
 |none=>rfl
 |some q=>rw[hg]at this;cases this
theorem vq (l m:Nat) (t:dA) (u v:Option Addr) (B C:Nat) (c:vB) (n:Int) (Y:List dA) (M:Nat) (q w:World) (h:jI w (q.heap.size<=·) l m c n Y M) (h0:Below q.heap.size q w) (hU:xI q) (p1:yA q u t.m9) (p2:yA q v t.s9)
 (I:xC (·.name) t.name Y=none) (hn:t.name.size<=maxLen) (hb1:∀i (h:i<t.m9.length),t.m9[i].s.size<=1000000000) (o:∀i (h:i<t.s9.length),t.s9[i].s.size<=1000000000) (hl1:t.m9.length<=500000000) (hl2:t.s9.length<=500000000) (hLL:Y.length<=1000000000) (hM:t.s9.length<=M)
 (hn0:0<=n) (hn1:n<=1000000000000) (hw0:1<=c.w) (hw1:c.w<=1000000000):
 Calls prog 134 #[.pointer (some ⟨l,0,none⟩),.agg #[.string t.name,.int .i64 t.l9,.slice u t.m9.length B,.slice v t.s9.length C]] w fun e E=>e=.returned (.bool (eO c.w n t))/\
  (eO c.w n t=true->jI E (q.heap.size<=·) l m c n (bB (·.name) t Y) M)/\gA (·=m) w E:=by
 obtain⟨T,L,h,hL⟩:=h;have j:Hid (eO c.w n t=(yB t.name&&xA t.l9 (-1) 1000000&&kK t.m9&&uJ c.w n t.s9&&!iE t)):=rfl;have r:Hid _:=fun W=>DP t.name W hn;by_cases e1:yB t.name=false
 ·rw[e1]at r j;clear h;go_enter func134,ntmps134;go_wp2_with fail;refine(r.out _).mono ?_;rintro e F ⟨rfl,hw⟩;replace hw:=hw.symm;subst hw;go_wp2;go_ret;exact⟨jA (by rw[j.out];simp),fun h=>absurd h (by rw[j.out];simp),gA.of (cA _ _)⟩
 have e1':yB t.name=true:=by simpa using e1
 rw[e1']at r j;clear e1 e1';have D:Hid _:=fun W=>BG t.l9 W;by_cases e2:xA t.l9 (-1) 1000000=false
 ·rw[e2]at D j;clear h;go_enter func134,ntmps134;go_wp2_with fail;refine(r.out _).mono ?_;rintro e F ⟨rfl,hw⟩;replace hw:=hw.symm;subst hw;go_wp2_with fail;refine(D.out _).mono ?_;rintro e F ⟨rfl,hw⟩;replace hw:=hw.symm;subst hw;go_wp2;go_ret;exact⟨jA (by rw[j.out];simp),fun h=>absurd h (by rw[j.out];simp),gA.of (cA _ _)⟩
 have e2':xA t.l9 (-1) 1000000=true:=by simpa using e2
 rw[e2']at D j;clear e2 e2';have X:Hid _:=h;have hml:=h.ten.lt;have hll:=aA h.blk;have J:=h0.size;have HLE:Hid _:=hL;have hLn:L.length=Y.length:=by rw[<-hL,Rb]
 have HGN:Hid _:=nh (by rw[hL];exact I);have HK:Hid _:=UE hn;have HNI:Hid _:=fun W=>UO t.l9 t.name W;have HLL:Hid (∀(S:Nat->Prop) (x:Nat) (W:World),gD W S x ⟨t.name,t.l9,[],[]⟩ 0->Below q.heap.size q W->(∀g,S g->q.heap.size<=g)->Calls prog 154 #[.pointer (some ⟨x,0,none⟩),.slice u t.m9.length B] W fun e E=>e=.returned (.bool (kK t.m9))/\(kK t.m9=true->gD E (fun g=>S g\/W.heap.size<=g) x ⟨t.name,t.l9,t.m9,[]⟩ 0)/\gA S W E):=
  fun S x W hi hb A=>LD x u B t.m9 ⟨t.name,t.l9,[],[]⟩ S 0 q W hi hb hU p1 A hb1 (by omega)
 have HSS:Hid (∀(S:Nat->Prop) (x:Nat) (W:World),gD W S x ⟨t.name,t.l9,t.m9,[]⟩ 0->Below q.heap.size q W->(∀g,S g->q.heap.size<=g)->eA W l (GZ c n m) 218->¬S l->Calls prog 155 #[.pointer (some ⟨l,0,none⟩),.pointer (some ⟨x,0,none⟩),.slice v t.s9.length C] W fun e E=>e=.returned (.bool (uJ c.w n t.s9))/\(uJ c.w n t.s9=true->gD E (fun g=>S g\/W.heap.size<=g) x ⟨t.name,t.l9,t.m9,t.s9⟩ (0+t.s9.length))/\gA S W E):=
  fun S x W hi hb A hbl hsl=>LE l m x v C t.s9 ⟨t.name,t.l9,t.m9,[]⟩ c n S 0 q W hbl hsl hi hb hU p2 A o hl2 (by omega) hn0 hn1 hw0 hw1
 have H0:Hid _:=h0;clear h p1 p2 I hn hb1 o hl1 hl2 hL h0 hU;go_enter func134,ntmps134;go_wp2_with fail;refine(r.out _).mono ?_;rintro e F ⟨rfl,hw⟩;replace hw:=hw.symm;subst hw;go_wp2_with fail;refine(D.out _).mono ?_;rintro e F ⟨rfl,hw⟩;replace hw:=hw.symm;subst hw;go_wp2_with fail;have B1:Hid (Below w.heap.size w (w.alloc (.cells #[.string t.name,.int .i64 t.l9,.slice u t.m9.length B,.slice v t.s9.length C] 100))):=cA _ _;have X1:Hid (eA (w.alloc (.cells #[.string t.name,.int .i64 t.l9,.slice u t.m9.length B,.slice v t.s9.length C] 100)) w.heap.size #[.string t.name,.int .i64 t.l9,.slice u t.m9.length B,.slice v t.s9.length C] 100):=eA.new _ _ _;have hz1:w.heap.size<(w.alloc (.cells #[.string t.name,.int .i64 t.l9,.slice u t.m9.length B,.slice v t.s9.length C] 100)).heap.size:=by simp
 generalize w.alloc (.cells #[.string t.name,.int .i64 t.l9,.slice u t.m9.length B,.slice v t.s9.length C] 100)=F at *;refine(HNI.out F).mono ?_;rintro e Z ⟨x,rfl,hx,hi2,o⟩;have B2:Hid _:=o;have y:=nA B1.out o;have X2:Hid (eA Z w.heap.size #[.string t.name,.int .i64 t.l9,.slice u t.m9.length B,.slice v t.s9.length C] 100):=X1.out.later o;have L2:Hid (eA Z l (GZ c n m) 218):=X.out.blk.later y;have N:=(gA.of (S:=fun _=>False) y).map X.out.ten (fun e=>e);obtain⟨w3,run3,K,z⟩:=N.drew.update YY underlying216 (by unfold maxLen;omega) HK.out (LP x);have b:gA (·=m) Z w3:=(gA.grown (a:=Z) ⟨z.os,z.tape,z.output,z.size,z.block⟩).mono fun i _ e=>by simp only[Pa]at e;exact e.symm
 have T3:Hid _:=b;have H:Hid (w3.ownsMap prog 9 zO m (L.length+1) (DataW.put (rH (L.map fun p=>(p.1.name,zP p.2))) (kL t.name) (zP x))):=K;have HI3:Hid (gD w3 (fun g=>F.heap.size<=g) x ⟨t.name,t.l9,[],[]⟩ 0):=hi2.keep fun g hg A=>⟨b.block g hg (by omega),A⟩
 have hmb:q.heap.size<=m:=X.out.mB;have B3:Hid _:=(H0.out.trans (y.mono J)).trans (b.below (by have:=y.size;omega) (fun k hk=>by omega));have X3:Hid (eA w3 w.heap.size #[.string t.name,.int .i64 t.l9,.slice u t.m9.length B,.slice v t.s9.length C] 100):=b.blk X2.out (by omega);have L3:Hid (eA w3 l (GZ c n m) 218):=b.blk L2.out X.out.lm.symm;have x0:Z.cell? ⟨l,7,none⟩=some (.map (some m)):=L2.out.cell 7;have x1:Z.cell? ⟨w.heap.size,0,none⟩=some (.string t.name):=X2.out.cell 0;have hz2:=o.size;have hz3:=b.size;have TW3:Hid _:=(gA.of y).trans' b;clear o y N K z b hi2 X1 X2 L2 HNI r D;go_upto_region 4 with fail;go_cut [25] (fun _ wx=>wx=w3)
 case first=>
  go_region
  go_wp2_with fail;go_meet;exact rfl
 subst hcut;clear run3 x0 x1;have y0:wc.cell? ⟨w.heap.size,2,none⟩=some (.slice u t.m9.length B):=X3.out.cell 2;go_wp2_with fail;refine(HLL.out _ x wc HI3.out B3.out (fun g hg=>by omega)).mono ?_;rintro e w4 ⟨rfl,hi4,d⟩;have HI4:Hid _:=hi4;have T4:Hid _:=d;have P:Hid _:=TW3.out.trans (d.mono fun i _ e=>Ja (by omega));have X4:Hid (eA w4 w.heap.size #[.string t.name,.int .i64 t.l9,.slice u t.m9.length B,.slice v t.s9.length C] 100):=d.blk X3.out (by omega);have L4:Hid (eA w4 l (GZ c n m) 218):=d.blk L3.out (by omega);have B4:Hid _:=B3.out.trans (d.below (by omega) (fun k hk=>by omega));clear hi4 d y0 HLL X3 L3 HI3 B3 TW3;by_cases e3:kK t.m9=false
 ·rw[e3]at j |-
  go_wp2;go_ret;exact⟨jA (by rw[j.out];simp),fun h=>absurd h (by rw[j.out];simp),P.out⟩
 have R:kK t.m9=true:=by simpa using e3
 have G:Hid (gD w4 (fun g=>F.heap.size<=g) x ⟨t.name,t.l9,t.m9,[]⟩ 0):=(HI4.out R).keep fun g _ A=>⟨rfl,by rcases A with A|A<;>omega⟩
 rw[R]at j |-
 clear e3 R HI4;have y1:w4.cell? ⟨w.heap.size,3,none⟩=some (.slice v t.s9.length C):=X4.out.cell 3;go_wp2_with fail;refine(HSS.out _ x w4 G.out B4.out (fun g hg=>by omega) L4.out (by omega)).mono ?_;rintro e w5 ⟨rfl,V,f⟩;have Q:Hid _:=P.out.trans (f.mono fun i _ e=>Ja (by omega));have hz4:=T4.out.size;by_cases e4:uJ c.w n t.s9=false
 ·rw[e4]at j |-
  clear V f;go_wp2;go_ret;exact⟨jA (by rw[j.out];simp),fun h=>absurd h (by rw[j.out];simp),Q.out⟩
 have U:uJ c.w n t.s9=true:=by simpa using e4
 have O:Hid (gD w5 (fun g=>F.heap.size<=g) x t t.s9.length):=by
  have:=(V U).keep (w':=w5) (S':=fun g=>F.heap.size<=g) fun g _ A=>⟨rfl,by rcases A with A|A<;>omega⟩
  rw[Wa]at this;exact this
 have T35:Hid _:=T4.out.trans' f;rw[U]at j |-
 have HEND:Hid (jI w5 (q.heap.size<=·) l m c n (bB (·.name) t Y) M):=by
  have:=vr X.out (fun g hg=>Ra J hg) HGN.out B1.out B2.out hx T3.out H.out T35.out O.out hM;rw[DL (key':=fun t:dA=>t.name) (fun p:dA×Nat=>p.1) (fun _=>rfl),HLE.out]at this;exact this
 clear e4 U V f T35 T4 HSS G B4 L4 X4 P y1 H T3 X;have HID:Hid (Calls prog 156 #[.pointer (some ⟨x,0,none⟩)] w5 fun e E=>e=.returned (.bool (iE t))/\E=w5):=um x t _ _ w5 O.out;go_wp2_with fail;refine HID.out.mono ?_;rintro e w6 ⟨rfl,hw⟩;replace hw:=hw.symm;subst hw;clear HID O;cases bA:iE t with
 |true=>
  rw[bA]at j;go_wp2;go_ret;exact⟨jA (by rw[j.out];rfl),fun h=>absurd h (by rw[j.out];simp),Q.out⟩
 |false=>
  rw[bA]at j;go_wp2;go_ret;exact⟨jA (by rw[j.out];rfl),fun _=>HEND.out,Q.out⟩
end
section
open Go.Maps
theorem jI.re {w q:World} {B i:Nat->Prop} {l m:Nat} {c:vB} {b:Int} {o:List dA} {M:Nat} (h:jI w B l m c b o M) (d:∀g,g<w.heap.size->B g->q.heap[g]?=w.heap[g]?/\i g):jI q i l m c b o M:=by
 obtain⟨T,L,h,e⟩:=h;have k:=d l (aA h.blk) h.lB;have n:=d m h.ten.lt h.mB;refine⟨T,L,{ h with blk:=k.1.trans h.blk,ten:=?_,idx:=fun p u=>(h.idx p u).keep fun g j f=>⟨(d g j f.1).1,(d g j f.1).2,f.2⟩,lB:=k.2,mB:=n.2},e⟩;obtain⟨s,a,t,r⟩:=h.ten;exact⟨s,a,n.1.trans t,r⟩
def za (a:List dA) (M:Nat):Prop:=∀i (h:i<a.length),a[i].name.size<=maxLen/\(∀j (b:j<a[i].m9.length),a[i].m9[j].s.size<=1000000000)/\(∀j (b:j<a[i].s9.length),a[i].s9[j].s.size<=1000000000)/\a[i].m9.length<=500000000/\a[i].s9.length<=500000000/\a[i].s9.length<=M
def ik (c:vB) (a:Int) (b:List dA) (M:Nat) (w:World) (e:Ending) (d:World):Prop:=
 (gB c a b=false/\e=.returned (.tuple #[.pointer none,.bool false])/\Below w.heap.size w d)\/
 (gB c a b=true/\∃l m,e=.returned (.tuple #[.pointer (some ⟨l,0,none⟩),.bool true])/\w.heap.size<=l/\jI d (w.heap.size<=·) l m c a b M/\Below w.heap.size w d)
theorem vx (c:vB) (r:Int) (a:Option Addr) (H:Nat) (u:List dA) (M:Nat) (w:World) (hf:oB w a u) (hfit:za u M) (hlen:u.length<=1000000000) (hU:xI w):
 Calls prog 98 #[iD c,.agg #[.int .i64 r,.slice a u.length H]] w fun e y=>ik c r u M w e y:=by
 have HC:Hid _:=fun W=>YD c W;have z:Hid (gB c r u=(jE c&&xA r 0 1000000000000&&decide (u.length<=10000) &&yL c.w r u)):=rfl;have HF:Hid (oB w a u):=hf;have HB:Hid (za u M):=hfit;have HU:Hid (xI w):=hU;have HWI:Hid _:=fun W=>oE r 1000000000000 W;have HCW:Hid (jE c=true->1<=c.w/\c.w<=1000000000):=fun h=>by
  have:xA c.w 1 1000000000=true:=by
   cases hb:xA c.w 1 1000000000 with
   |true=>rfl
   |false=>rw[jE,hb]at h;simp at h
  exact dK this
 clear hf hfit hU;unfold iD at *;go_enter func98,ntmps98;go_wp2_with fail;refine(HC.out _).mono ?_;rintro e v ⟨rfl,S⟩;have U:Hid _:=nA (nA (cA _ _) (cA _ _)) S;have C1:Hid (eA v w.heap.size #[.int .i64 c.w,.int .i64 c.tl,.int .i64 c.ml,.int .i64 c.sh,.int .i64 c.ha,.int .i64 c.sg] 33):=bA (((eA.new _ _ _).alloc _).later S);have S1:Hid _:=bA (by have:=(eA.new (w.alloc (.cells #[.int .i64 c.w,.int .i64 c.tl,.int .i64 c.ml,.int .i64 c.sh,.int .i64 c.ha,.int .i64 c.sg] 33)) #[.int .i64 r,.slice a u.length H] 51).later S;simpa using this);have s0:v.cell? ⟨w.heap.size+1,0,none⟩=some (.int .i64 r):=S1.out.cell 0;have s1:v.cell? ⟨w.heap.size+1,1,none⟩=some (.slice a u.length H):=S1.out.cell 1;have k0:v.cell? ⟨w.heap.size,0,none⟩=some (.int .i64 c.w):=C1.out.cell 0;have k1:v.cell? ⟨w.heap.size,1,none⟩=some (.int .i64 c.tl):=C1.out.cell 1;have k2:v.cell? ⟨w.heap.size,2,none⟩=some (.int .i64 c.ml):=C1.out.cell 2;have k3:v.cell? ⟨w.heap.size,3,none⟩=some (.int .i64 c.sh):=C1.out.cell 3;have k4:v.cell? ⟨w.heap.size,4,none⟩=some (.int .i64 c.ha):=C1.out.cell 4;have k5:v.cell? ⟨w.heap.size,5,none⟩=some (.int .i64 c.sg):=C1.out.cell 5;have hs1l:=aA S1.out;clear S HC;cases g0:jE c
 ·rw[g0]at z;go_wp2;go_ret2;exact Ca ⟨by rw[z.out];simp,rfl,U.out⟩
 obtain⟨hw0,hw1⟩:=HCW.out g0;rw[g0]at z;clear g0 HCW;go_wp2_with fail;refine pD (HWI.out _) ?_;clear HWI;cases g1:xA r 0 1000000000000
 ·rw[g1]at z;go_wp2;go_ret2;exact Ca ⟨by rw[z.out];simp,rfl,U.out⟩
 obtain⟨hn0,hn1⟩:=dK g1;rw[g1]at z;clear g1;by_cases g2:(10000:Int)<u.length
 ·rw[show decide (u.length<=10000)=false by simp;omega]at z;go_wp2;go_ret2;exact Ca ⟨by rw[z.out];simp,rfl,U.out⟩
 have Z:Hid (gB c r u=yL c.w r u):=by show _=_;rw[z.out,show decide (u.length<=10000)=true by simp;omega];simp
 clear z;have hmm:=@run_makeMap prog;go_upto_region 3 with fail;go_cut [6] (fun s wx=>s=.pointer (some ⟨v.heap.size+1,0,none⟩)/\wx=(v.alloc (.map #[] 0)).alloc (.cells (GZ c r v.heap.size) 218))
 case first=>
  go_wp2;go_meet;exact⟨rfl,rfl⟩
 obtain⟨rfl,hwc⟩:=hcut;have L0:Hid (jI wc (v.heap.size<=·) (v.heap.size+1) v.heap.size c r (u.take 0) M):=by
  rw[hwc];refine⟨fun _=>none,[],?_,rfl⟩;exact {
   blk:=by have:=eA.new (v.alloc (.map #[] 0)) (GZ c r v.heap.size) 218;simpa using this
   ten:=(World.ownsMap_made v _ _ _).alloc _
   rise:=Xd
   idx:=fun p L=>by cases L
   nd:=List.nodup_nil
   tl:=rfl
   tm:=rfl
   lB:=Yg _
   mB:=Ka _}
 have BC:Hid (Below v.heap.size v wc):=by rw[hwc];exact nA (cA _ _) (cA _ _)
 have s2:=(BC.out.cell hs1l).trans s1;have HU1:Hid (xI v):=HU.out.later U.out;have HF1:Hid (oB v a u):=HF.out.later U.out;clear hwc hmm s0 s1 k0 k1 k2 k3 k4 k5 C1 HU HF;go_wp2;clear s2;go_loopw [7,8,33] (fun _ _ i wr=>∃k:Nat,k<=u.length/\i=.int .i64 k/\iH (xL c.w r u) k=true/\jI wr (v.heap.size<=·) (v.heap.size+1) v.heap.size c r (u.take k) M/\Below v.heap.size v wr) (fun _ _ i _=>u.length-(intOf i).toNat)
 case atStart=>exact⟨0,La _,rfl,rfl,L0.out,BC.out⟩
 case round=>
  obtain⟨k,hk,rfl,hok,hled,hbel⟩:=hrel;have HOK:Hid _:=hok;have E:Hid (jI wr (v.heap.size<=·) (v.heap.size+1) v.heap.size c r (u.take k) M):=hled;have x:Hid _:=hbel;clear hok hled hbel L0 BC;by_cases C:k<u.length
  ·obtain⟨b,o,N,P,O,Q,rfl,K,f,l,m,n,p1,p2⟩:=HF1.out.at C;obtain⟨n1,n2,n3,n4,n5,n6⟩:=HB.out k C;have HAT:Hid (xL c.w r u k=(lK u k&&eO c.w r u[k])):=eT C;have HFAIL:Hid (xL c.w r u k=false->gB c r u=false):=fun h=>by rw[Z.out];exact kM h C
   have Y:Hid (0<k->∃I:ByteArray,lK u k=wH I u[k].name/\v.cell? ⟨b,o+(k-1)*4,none⟩=some (.string I)):=fun h0=>by
    refine⟨_,qS h0 C,?_⟩;obtain⟨b',o',_,_,_,_,e,_,u0,_⟩:=HF1.out.at (i:=k-1) (by omega)
    simp only[Pa,Addr.mk.injEq,Yb]at e;rw[e.1,e.2];exact u0
   have HPZ:Hid (k=0->lK u k=true):=fun h0=>by subst h0;rfl
   have HTK:Hid (lK u k=true->bB (·.name) u[k] (u.take k)=u.take (k+1)/\xC (·.name) u[k].name (u.take k)=none):=fun h=>KM (key:=fun t:dA=>t.name) C (by
    apply kQ;intro j hj;simp only[Hb]at hj;by_cases e:j+1=k
    ·subst e;rw[qS (by omega) C]at h;simpa using h
    ·have:=uN HOK.out (k:=j+1) (by omega);rw[eT (by omega),Sa]at this;have h1:=this.1;rw[qS (by omega) (by omega)]at h1;simpa using h1)
   have HTL:Hid ((u.take k).length<=1000000000):=by show _<=_;rw[Hb];omega
   have z0:=(x.out.cell K).trans f;have z1:=(x.out.cell K).trans l;have z2:=(x.out.cell K).trans m;have z3:=(x.out.cell K).trans n;generalize u[k]=T at *;have X:Hid (∀W,jI W (v.heap.size<=·) (v.heap.size+1) v.heap.size c r (u.take k) M->Below v.heap.size v W->lK u k=true->Calls prog 134 #[.pointer (some ⟨v.heap.size+1,0,none⟩),.agg #[.string T.name,.int .i64 T.l9,.slice N T.m9.length P,.slice O T.s9.length Q]] W fun e y=>e=.returned (.bool (eO c.w r T))/\(eO c.w r T=true->jI y (v.heap.size<=·) (v.heap.size+1) v.heap.size c r (u.take (k+1)) M)/\gA (·=v.heap.size) W y):=fun W hW hb L=>by
    refine(vq (v.heap.size+1) v.heap.size T N O P Q c r (u.take k) M v W hW hb HU1.out p1 p2 (HTK.out L).2 n1 n2 n3 n4 n5 HTL.out n6 hn0 hn1 hw0 hw1).mono ?_;rintro e y ⟨h1,h2,h3⟩;rw[(HTK.out L).1]at h2;exact⟨h1,h2,h3⟩
   have hTBG:v.heap.size+1<wr.heap.size:=by obtain⟨_,_,hz,_⟩:=E.out;exact aA hz.blk
   go_upto_region 7 with fail;have G:Hid (eA (wr.alloc (.cells #[.string T.name,.int .i64 T.l9,.slice N T.m9.length P,.slice O T.s9.length Q] 100)) wr.heap.size #[.string T.name,.int .i64 T.l9,.slice N T.m9.length P,.slice O T.s9.length Q] 100):=eA.new _ _ _;have A:Hid (Below v.heap.size v (wr.alloc (.cells #[.string T.name,.int .i64 T.l9,.slice N T.m9.length P,.slice O T.s9.length Q] 100))):=x.out.trans ((cA _ _).mono x.out.size);have HL2:Hid (jI (wr.alloc (.cells #[.string T.name,.int .i64 T.l9,.slice N T.m9.length P,.slice O T.s9.length Q] 100)) (v.heap.size<=·) (v.heap.size+1) v.heap.size c r (u.take k) M):=E.out.later (cA _ _);generalize wr.alloc (.cells #[.string T.name,.int .i64 T.l9,.slice N T.m9.length P,.slice O T.s9.length Q] 100)=W at *;generalize wr.heap.size=J at *;have x0:W.cell? ⟨w.heap.size+1,1,none⟩=some (.slice (some ⟨b,o,none⟩) u.length H):=(A.out.cell hs1l).trans (S1.out.cell 1);have x1:W.cell? ⟨J,0,none⟩=some (.string T.name):=G.out.cell 0;have x2:W.cell? ⟨J,1,none⟩=some (.int .i64 T.l9):=G.out.cell 1;have x3:W.cell? ⟨J,2,none⟩=some (.slice N T.m9.length P):=G.out.cell 2;have x4:W.cell? ⟨J,3,none⟩=some (.slice O T.s9.length Q):=G.out.cell 3;have HPR2:Hid (0<k->∃I:ByteArray,lK u k=wH I T.name/\W.cell? ⟨b,o+(k-1)*4,none⟩=some (.string I)):=fun h0=>by
    obtain⟨I,e1,e2⟩:=Y.out h0;exact⟨I,e1,(A.out.cell K).trans e2⟩
   have V:Hid _:=fun L W' hW=>X.out W' (HL2.out.later hW) (A.out.trans (hW.mono A.out.size)) L;have F:=aA G.out;have hWs:=A.out.size;have HBT:Hid _:=fun y (hw:gA (·=v.heap.size) W y)=>A.out.trans (hw.below hWs (fun k hk=>by omega));clear z0 z1 z2 z3 f l m n p1 p2 Y X E x G wr;go_cut [57] (fun s wx=>s=.bool (!(xL c.w r u k))/\(xL c.w r u k=true->jI wx (v.heap.size<=·) (v.heap.size+1) v.heap.size c r (u.take (k+1)) M)/\Below v.heap.size v wx)
   case first=>
    by_cases h0:(0:Int)<k
    ·have h0':0<k:=by omega
     obtain⟨I,L,cp⟩:=HPR2.out h0';obtain⟨j,hj⟩:∃j,j=k-1:=⟨_,rfl⟩
     rw[<-hj]at cp;have hi0:IntKind.i64.wrap ((k:Int)-1)=(j:Int):=by
      have:(k:Int)-1=(j:Int):=by omega
      rw[this];simp only[IntKind.wrap,IntKind.bits,IntKind.signed];simp;omega
     have hi1:(j:Int)<u.length:=by omega
     clear hj;by_cases hb:Op.bytesLess I.toList T.name.toList=true
     ·have D:lK u k=true:=by rw[L];exact hb
      have HLD:=bA (V.out D);have HV:Hid (xL c.w r u k=eO c.w r T):=by show _=_;rw[HAT.out,D,Ce]
      clear L D;have HKS:Hid (∀y,gA (·=v.heap.size) W y->y.cell? ⟨w.heap.size+1,1,none⟩=some (.slice (some ⟨b,o,none⟩) u.length H)/\y.cell? ⟨b,o+j*4,none⟩=some (.string I)/\y.cell? ⟨J,0,none⟩=some (.string T.name)/\y.cell? ⟨J,1,none⟩=some (.int .i64 T.l9)/\y.cell? ⟨J,2,none⟩=some (.slice N T.m9.length P)/\y.cell? ⟨J,3,none⟩=some (.slice O T.s9.length Q)):=fun y hw=>by
       have hg:∀g,g<W.heap.size->g≠v.heap.size->∀q,y.cell? ⟨g,q,none⟩=W.cell? ⟨g,q,none⟩:=fun g h1 h2 q=>World.cell?_of_block (hw.block g h1 h2);exact⟨(hg _ (by omega) (by omega) _).trans x0,(hg _ (by omega) (by omega) _).trans cp,(hg _ F (by omega) _).trans x1,(hg _ F (by omega) _).trans x2,(hg _ F (by omega) _).trans x3,(hg _ F (by omega) _).trans x4⟩
      go_region_held3 (fun y=>y.cell? ⟨w.heap.size+1,1,none⟩=some (.slice (some ⟨b,o,none⟩) u.length H)/\y.cell? ⟨b,o+j*4,none⟩=some (.string I)/\y.cell? ⟨J,0,none⟩=some (.string T.name)/\y.cell? ⟨J,1,none⟩=some (.int .i64 T.l9)/\y.cell? ⟨J,2,none⟩=some (.slice N T.m9.length P)/\y.cell? ⟨J,3,none⟩=some (.slice O T.s9.length Q))
       (first|go_keep|exact HKS.out _ hs8)
       (first|(go_at_call 134;refine(HLD.out _ (by repeat (first|with_reducible exact Below.refl _ _|exact(Below.refl _ _).drew|with_reducible refine Below.drew ?_))).mono ?_;rintro e w8 ⟨rfl,B,ht8⟩;have hs8:gA (·=v.heap.size) W w8:=(gA.refl _ _).drew.trans' ht8))
      all_goals(go_wp2_with fail;go_meet)
      all_goals exact⟨by rw[HV.out],fun h=>by rw[HV.out]at h;exact B h,HBT.out _ hs8⟩
     ·have hb':Op.bytesLess I.toList T.name.toList=false:=by simpa using hb
      have HV:Hid (xL c.w r u k=false):=by show _=_;rw[HAT.out,L,wH,hb'];rfl
      clear L hb;go_quiet (fail)
      go_wp2_with fail;go_meet;exact⟨by rw[HV.out];rfl,fun h=>absurd h (by rw[HV.out];simp),below_drewN A.out _⟩
    ·have hd':decide (0<k)=false:=by simp;omega
     have hnk:¬0<k:=by omega
     have D:=HPZ.out (by omega);have HLD:=bA (V.out D);have HV:Hid (xL c.w r u k=eO c.w r T):=by show _=_;rw[HAT.out,D,Ce]
     clear D;refine rW 17 (by kernel_rfl) (by kernel_rfl) ?_;simp only[List.take_succ_cons,List.take_zero,List.drop_succ_cons,We];have hnel:Nonempty Unit:=⟨()⟩
     repeat (go_big_quiet_step (fail))
     refine wpQuiet_nil ?_;go_wp2_with(first|(go_at_call 134;refine(HLD.out _ ((Below.refl _ _).drew)).mono ?_;rintro e w8 ⟨rfl,B,ht8⟩));go_meet;exact⟨by rw[HV.out],fun h=>by rw[HV.out]at h;exact B h,HBT.out _ ((gA.refl _ _).drew.trans' ht8)⟩
   obtain⟨rfl,B,hb8⟩:=hcut;rename World=>w8;have HB8:Hid _:=hb8;by_cases d:xL c.w r u k=false
   ·have HF4:Hid _:=HFAIL.out d;rw[d];clear d B hb8;go_wp2;go_ret2;exact Ca ⟨HF4.out,rfl,nA U.out HB8.out⟩
   ·have R:xL c.w r u k=true:=by simpa using d
    have HF4:Hid (iH (xL c.w r u) (k+1)=true):=by show _=_;rw[lI,HOK.out,R];rfl
    have HL8:Hid (jI w8 (v.heap.size<=·) (v.heap.size+1) v.heap.size c r (u.take (k+1)) M):=B R;rw[R];clear d R B hb8;go_wp2;exact⟨⟨k+1,by omega,by go_num,HF4.out,HL8.out,HB8.out⟩,by simp[intOf];omega⟩
  ·have ek:k=u.length:=by omega
   have HEND:Hid (gB c r u=true):=by show _=_;rw[Z.out];have:=HOK.out;rw[ek]at this;exact this
   have HLE:Hid (jI wr (v.heap.size<=·) (v.heap.size+1) v.heap.size c r u M):=by have:=E.out;rw[ek,Wb]at this;exact this
   have hz:=U.out.size;go_wp2;go_ret2;exact Ja ⟨HEND.out,_,_,rfl,by omega,HLE.out.re (fun g _ hg=>⟨rfl,Ra hz hg⟩),nA U.out x.out⟩
end
def aFx (a:List dA):Prop:=∀i (h:i<a.length),a[i].m9.length<=maxLen/\a[i].s9.length<=maxLen
section
open Go.Maps
structure Fnd (w W:World) (B:Nat→Prop) (T:Nat→Option Nat) (l m:Nat) (c:vB) (now:Int) (L:List (dA×Nat)) (M:Nat) (n9:ByteArray) (x N:Nat) (th:Bool) (t:dA) (S:Nat→Prop):Prop where
 ix:gD W S x t N
 tn:tA (L.map (·.1)) n9=t
 nm:t.name=n9
 no:(xC (·.name) n9 (L.map (·.1))).isNone=!th
 led:RP W B T l m c now L M
 bw:Below w.heap.size w W
 sB:∀g,S g→B g
 sl:¬S l
 sm:¬S m
 mem:t∈L.map (·.1)∧th=true∨t.s9=[]∧t.m9=[]
 nM:N≤M
 put:∀k {w2 w4 w6:World} {t':dA} {n:Nat},Below W.heap.size W w2→gA S w2 w4→gD w4 (fun g=>S g∨w2.heap.size≤g) x t' (N+k)→t'.name=n9→gA (·=m) w4 w6→w6.ownsMap prog 9 zO m n (DataW.put (rH (L.map fun p=>(p.1.name,zP p.2))) (kL n9) (zP x))→jI w6 B l m c now (bB (·.name) t' (L.map (·.1))) (M+k)
 turn:th=true→∀{w4:World} {t':dA},gA S W w4→gD w4 S x t' N→t'.name=n9→jI w4 B l m c now (bB (·.name) t' (L.map (·.1))) M
 kp:th=false→∀{w4:World},gA S W w4→RP w4 B T l m c now L M
 del:∀{w4 w6:World} {n:Nat},gA S W w4→gA (·=m) w4 w6→w6.ownsMap prog 9 zO m n (DataW.del (rH (L.map fun p=>(p.1.name,zP p.2))) (kL n9))→jI w6 B l m c now (dI (·.name) n9 (L.map (·.1))) M
end
def MW (a:List lC):Prop:=∀i (h:i<a.length),AC a[i].kind/\AC a[i].num
def dF (a:List lC):List Value:=a.flatMap fun x=>[.int .i64 x.kind,.string x.n9,.string x.text,.int .i64 x.num]
theorem dG.turn {w f:World} {B:Nat} {S:Nat->Prop} {a:Option Addr} {m:List lC} (h:dG w B a m) (r:gA S w f) (o:∀g,S g->g<B):dG f B a m:=by
 rcases h with h|⟨b,s,c,t,rfl,n,k,d⟩
 ·exact Ca h
 ·have l:=r.block b (aA k) (fun e=>by have:=o b e;omega);have p:∀j,f.cell? ⟨b,j,none⟩=w.cell? ⟨b,j,none⟩:=fun j=>World.cell?_of_block l;exact Ja ⟨b,s,c,t,rfl,n,l.trans k,fun i q=>by simp only[p];exact d i q⟩
def gO (w:World) (B P:Nat) (a:Option Addr) (n:Nat):Prop:=n=0\/∃b o,a=some ⟨b,o,none⟩/\b≠B/\b<P/\∀i,i<n->∃v:Nat,v<256/\w.cell? ⟨b,o+i,none⟩=some (.int .u8 (v:Nat))
theorem gO.but {w f:World} {B P n:Nat} {a:Option Addr} (h:gO w B P a n) (m:P<=w.heap.size) (g:dB B w f):gO f B P a n:=by
 rcases h with h|⟨b,o,e,c,d,h⟩
 ·exact Ca h
 ·exact Ja ⟨b,o,e,c,d,fun i k=>by
   obtain⟨v,l,j⟩:=h i k;exact⟨v,l,by rw[World.cell?_of_block (g.block b (by omega) c)];exact j⟩⟩
theorem gO.below {w f:World} {B P n:Nat} {a:Option Addr} (h:gO w B P a n) (g:Below P w f):gO f B P a n:=by
 rcases h with h|⟨b,o,e,d,c,h⟩
 ·exact Ca h
 ·exact Ja ⟨b,o,e,d,c,fun i k=>by
   obtain⟨v,l,j⟩:=h i k;exact⟨v,l,by rw[World.cell?_of_block (g.block b c)];exact j⟩⟩
theorem gO.up {w f:World} {B P c n:Nat} {a:Option Addr} (h:gO w B P a n) (g:Below P w f) (p:P<=c):gO f c c a n:=by
 rcases h with h|⟨b,o,e,l,d,h⟩
 ·exact Ca h
 ·exact Ja ⟨b,o,e,by omega,by omega,fun i k=>by
   obtain⟨v,m,j⟩:=h i k;exact⟨v,m,by rw[World.cell?_of_block (g.block b d)];exact j⟩⟩
