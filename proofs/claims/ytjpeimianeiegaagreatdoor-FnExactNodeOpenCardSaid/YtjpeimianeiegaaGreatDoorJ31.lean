import Derived.Test.YtjpeimianeiegaaGreatDoorJ23
import Derived.Test.YtjpeimianeiegaaGreatDoorJ29
set_option maxRecDepth 100000
set_option maxHeartbeats 8000000
namespace Go.Proofs.YtjpeimianeiegaaGreatDoor
open Go.RowKit Tryz
section
open Go.Maps
theorem tj (a:List fA) (k:Nat) (d:k<a.length) (b:vB (·.s) (a.take (k+1))):
 DataW.put (oC ((a.take k).map fun p=>(p.s,qG p.n))) (kL a[k].s) (qG a[k].n)=oC ((a.take (k+1)).map fun p=>(p.s,qG p.n)):=by
 obtain⟨c,_⟩:=PH d b;have:=IM (key:=fun p:fA=>p.s) (fun p=>qG p.n) a[k] (aDa k (l:=a.take (k+1)) b);rw[List.take_take,Nat.min_eq_left (by omega)]at this;rw[this,c]
theorem QG (x:Nat) (a:Option Addr) (cap:Nat) (b:List fA) (t:eA) (S:Nat->Prop) (M:Nat) (T w:World) (h:lC w S x { t with m9:=[] } M) (d:Below T.heap.size T w) (hU:dF T) (hp:vA T a b) (hS:∀g,S g->T.heap.size<=g) (q:∀i (h:i<b.length),b[i].s.size<=1000000000) (hl:b.length<=1000000000):
 Calls prog 174 #[.pointer (some ⟨x,0,none⟩),.slice a b.length cap] w fun e w'=>e=.returned (.bool (yL b))/\(yL b=true->lC w' (fun g=>S g\/w.heap.size<=g) x { t with m9:=b} M)/\gA S w w':=by
 have HI:Hid (lC w S x { t with m9:=[] } M):=h;have H0:Hid _:=d;have HU:Hid (dF T):=hU;have i0:Hid (vA T a b):=hp;have HSS:Hid _:=hS;have HBB:Hid _:=q;clear h d hU hp hS q;go_enter func174,ntmps174;go_wp2;go_loopw [5,6,9] (fun _ _ j wr=>∃k:Nat,k<=b.length/\j=.int .i64 k/\vH (nK b) k=true/\lC wr (fun g=>S g\/w.heap.size<=g) x { t with m9:=b.take k} M/\gA S w wr) (fun _ _ j _=>b.length-(intOf j).toNat)
 case atStart=>exact⟨0,Ha _,rfl,rfl,HI.out.keep (fun g _ hs=>⟨rfl,Ba hs⟩),gA.refl _ _⟩
 case round=>
  obtain⟨k,hk,rfl,hok,C,R⟩:=hrel;have g0:Hid _:=hok;have H:Hid (lC wr (fun g=>S g\/w.heap.size<=g) x { t with m9:=b.take k} M):=C;have L:Hid _:=R;have Y:Hid _:=H0.out.trans (R.below H0.out.size (fun k hk hs=>by have:=HSS.out k hs;omega));clear hok C R;by_cases l:k<b.length
  ·obtain⟨pb,po,rfl,hpl,c0,c1⟩:=(i0.out.later Y.out).at l;have e0:Hid (nK b k=false->yL b=false):=fun h=>eN h l;have m:Hid _:=mX l;have hsz:=HBB.out k l;have A:Hid (0<k->∃c:ByteArray,yJ b k=uH c b[k].s/\wr.cell? ⟨pb,po+(k-1)*2,none⟩=some (.string c)):=fun d=>by
    refine⟨_,iR d l,?_⟩;obtain⟨b',o',e,_,u0,_⟩:=(i0.out.later Y.out).at (i:=k-1) (by omega)
    simp only[Ja,Addr.mk.injEq,Ub]at e;rw[e.1,e.2];exact u0
   have K:Hid (k=0->yJ b k=true):=fun d=>by subst d;rfl
   have f0:=tj b k l;have k0:Hid (nK b k=true->vH (nK b) (k+1)=true/\vB (·.s) (b.take (k+1))):=fun h=>by
    have h1:vH (nK b) (k+1)=true:=by rw[lJ,g0.out,h];rfl
    exact⟨h1,II h1 (by omega)⟩
   have z:Hid _:=f0;clear f0;have J:Hid _:=fun W hW=>xT b[k].s W hsz hW;generalize b[k]=P at *;go_upto_region 4 with fail;have u:Hid (lA (wr.alloc (.cells #[.string P.s,.int .i64 P.n] 111)) wr.heap.size #[.string P.s,.int .i64 P.n] 111):=lA.new _ _ _;have r:Hid (Below wr.heap.size wr (wr.alloc (.cells #[.string P.s,.int .i64 P.n] 111))):=cA _ _;have p:Hid (0<k->∃c:ByteArray,yJ b k=uH c P.s/\(wr.alloc (.cells #[.string P.s,.int .i64 P.n] 111)).cell? ⟨pb,po+(k-1)*2,none⟩=some (.string c)):=fun d=>by
    obtain⟨c,e1,e2⟩:=A.out d;exact⟨c,e1,((cA _ _).cell hpl).trans e2⟩
   generalize wr.alloc (.cells #[.string P.s,.int .i64 P.n] 111)=W at *;have b0:Hid (lC W (fun g=>S g\/w.heap.size<=g) x { t with m9:=b.take k} M):=H.out.later r.out;have l0:Hid _:=L.out.trans' (gA.of r.out);have G:Hid _:=Y.out.trans (r.out.mono Y.out.size);generalize wr.heap.size=mb at *;clear c0 c1 A hpl H L Y r wr;go_cut [38] (fun s wx=>s=.bool (!(nK b k))/\Below W.heap.size W wx)
   case first=>
    have d0:=oA.cells (show W.cell? ⟨mb,0,none⟩=some (.string P.s) from u.out.cell 0);have d1:=oA.cells (show W.cell? ⟨mb,1,none⟩=some (.int .i64 P.n) from u.out.cell 1);have hnel:=oA.there W;have o:Hid _:=fun(x:oA W)=>J.out _ (HU.out.later (G.out.trans (x.h.mono G.out.size)));have I:Hid _:=fun W=>qE P.n W;clear J;have N:(∃c:ByteArray,(0:Int)<k/\0<k/\W.cell? ⟨pb,po+(k-1)*2,none⟩=some (.string c)/\Op.bytesLess c.toList P.s.toList=false/\Hid (nK b k=false))\/yJ b k=true/\(decide ((0:Int)<k)=false/\decide (0<k)=false\/∃c:ByteArray,(0:Int)<k/\0<k/\W.cell? ⟨pb,po+(k-1)*2,none⟩=some (.string c)/\Op.bytesLess c.toList P.s.toList=true):=by
     by_cases d:0<k
     ·obtain⟨c,hp,B⟩:=p.out d;cases q:Op.bytesLess c.toList P.s.toList
      ·exact Ba ⟨c,by omega,d,B,q,by show _=_;rw[m.out,hp,uH,q];simp⟩
      ·exact Ea ⟨hp.trans q,Ea ⟨c,by omega,d,B,q⟩⟩
     ·exact Ea ⟨K.out (by omega),Ba ⟨by simp;omega,by simp;omega⟩⟩
    rcases N with⟨c,d,h0',B,q,HV⟩|⟨hpt,N⟩
    ·have d3:=oA.cells B;clear B;refine jA (by kernel_rfl) (by kernel_rfl) ?_;repeat (go_big_quiet_step (first|(go_at_call 215;exact tA (o.out _))|(go_at_call 58;exact jB (I.out _))))
     refine wpQuiet_nil ?_;rintro _ ⟨x,rfl⟩;go_wp2_with fail;go_meet;exact⟨by rw[HV.out];rfl,x.h⟩
    have hf:∃V,Hid (nK b k=V)/\(lE P.s=false/\V=false\/lE P.s=true/\uA P.n 0 1000000=V):=by
     have hm:=m.out;rw[hpt]at hm;cases X:lE P.s
     ·exact⟨false,by show _=_;rw[hm,X];simp,Ba ⟨rfl,rfl⟩⟩
     ·exact⟨_,rfl,Ea ⟨rfl,by rw[hm,X];simp⟩⟩
    clear p K m hpt;obtain⟨V,HV,hf⟩:=hf;rcases N with⟨hd,hd'⟩|⟨c,d,h0',B,q⟩
    rotate_left;have d3:=oA.cells B;clear B;all_goals
     rcases hf with⟨X,rfl⟩|⟨X,f2⟩
     rotate_left;rw[f2]at I;cases V
     all_goals
      rw[X]at o;clear X;try clear f2
      refine jA (by kernel_rfl) (by kernel_rfl) ?_;repeat (go_big_quiet_step (first|(go_at_call 215;exact tA (o.out _))|(go_at_call 58;exact jB (I.out _))))
      refine wpQuiet_nil ?_;rintro _ ⟨x,rfl⟩;go_wp2_with fail;go_meet;exact⟨by rw[HV.out];rfl,x.h⟩
   obtain⟨rfl,y⟩:=hcut;rename World=>U;have m0:Hid (lA U mb #[.string P.s,.int .i64 P.n] 111):=u.out.later y;have HI7:Hid (lC U (fun g=>S g\/w.heap.size<=g) x { t with m9:=b.take k} M):=b0.out.later y;have j0:Hid _:=l0.out.trans' (gA.of y);clear y u b0 l0 G p J;by_cases f4:nK b k=false
   ·have a0:Hid _:=e0.out f4;rw[f4];clear f4;go_wp2;go_ret;exact⟨kA a0.out.symm,fun h=>absurd h (by rw[a0.out];simp),j0.out⟩
   ·have v:nK b k=true:=by simpa using f4
    obtain⟨g1,g2⟩:=k0.out v;have hbn:uA P.n 0 1000000=true:=by
     have:=m.out;rw[v]at this;cases q:uA P.n 0 1000000 with
     |true=>rfl
     |false=>rw[q]at this;simp at this
    obtain⟨hbn0,hbn1⟩:=qK hbn;have G1:Hid _:=g1;have E:=z.out g2;rw[v];clear f4 v g1 e0 m K k0 z;obtain⟨lm,sm,cm,iv,Q,hs,D,hI⟩:=HI7.out;have hkey:keyOf prog 9 (.string P.s)=some (kL P.s):=sK (by unfold maxLen;omega);obtain⟨w8,run8,F,f⟩:=hI.lims.drew.update vJ underlying181 (by simp only[Ta];unfold maxLen;omega) (val:=.int .i64 P.n) hkey (plainElem_int underlying3 (WalkArith.wf_i64 (by omega)));have x0:U.cell? ⟨x,1,none⟩=some (.map (some lm)):=hI.blk.cell 1;have x1:U.cell? ⟨mb,0,none⟩=some (.string P.s):=m0.out.cell 0;have x2:U.cell? ⟨mb,1,none⟩=some (.int .i64 P.n):=m0.out.cell 1;go_wp2_with fail;go_region
    have O:gA (·=lm) U w8:=(gA.grown (a:=U) ⟨f.os,f.tape,f.output,f.size,f.block⟩).mono fun i _ e=>by simp only[Ja]at e;exact e.symm
    have HN:Hid (lC w8 (fun g=>S g\/w.heap.size<=g) x { t with m9:=b.take (k+1) } M):=hI.newLims O F E g2;have HT8:Hid _:=j0.out.trans (O.mono fun i _ e=>by subst e;exact hI.sl);clear hI F f O E g2 x0 x1 x2 run8 hbn;go_wp2;exact⟨⟨k+1,by omega,by go_num,G1.out,HN.out,HT8.out⟩,by simp[intOf];omega⟩
  ·have ek:k=b.length:=by omega
   have Z:Hid (yL b=true):=by have:=g0.out;rw[ek]at this;exact this
   have HIE:Hid (lC wr (fun g=>S g\/w.heap.size<=g) x { t with m9:=b} M):=by have:=H.out;rw[ek,Qb]at this;exact this
   clear ek;go_wp2;go_ret;exact⟨kA Z.out.symm,fun _=>HIE.out,L.out⟩
end
section
open Go.Maps
theorem aCb (a:List eB) (h:∀l∈a,l.value.size<=1000000):(iJ a).size<=1000000:=by
 induction a with
 |nil=>simp[iJ]
 |cons l r c=>
  rw[iJ];split
  ·exact h l (Lb ..)
  ·exact c fun q b=>h q (Za _ b)
theorem iQ (s:ByteArray):(tC s).size<=maxLen:=by
 have h:∀l∈(uE s).1,l.value.size<=1000000:=fun l a=>by
  cases hd:(uE s).2 with
  |false=>rw[(MK hd).1]at a;simp at a
  |true=>
   obtain⟨i,b,rfl⟩:=Gb a;have:=(kY (YS hd).1 i b).2;omega
 have:=aCb _ h;unfold tC maxLen;omega
def oW (c:nB) (a:Int) (m:Nat):Array Value:=#[.int .i64 c.w,.int .i64 c.tl,.int .i64 c.ml,.int .i64 c.sh,.int .i64 c.ha,.int .i64 c.sg,.int .i64 a,.map (some m)]
theorem JV (l m:Nat) (c:nB) (a:Int) (w:World) (h:lA w l (oW c a m) 146) (g:0<=a) (i:a<=1000000000000) (b:1<=c.w) (d:c.w<=1000000000):
 Calls prog 217 #[.pointer (some ⟨l,0,none⟩)] w fun e f=>e=.returned (.int .i64 (a-c.w))/\Below w.heap.size w f:=by
 have j:w.cell? ⟨l,6,none⟩=some (.int .i64 a):=h.cell 6;have k:w.cell? ⟨l,0,none⟩=some (.int .i64 c.w):=h.cell 0;clear h;go_enter func217,ntmps217;go_wp2_with fail;go_quiet (fail)
 go_wp2;go_ret;exact⟨rfl,below_drewN (Below.refl _ _) _⟩
theorem QH (l m x:Nat) (a:Option Addr) (cap:Nat) (d:List fA) (t:eA) (c:nB) (b:Int) (S:Nat->Prop) (M:Nat) (Z w:World) (hl:lA w l (oW c b m) 146) (hSl:¬S l) (h:lC w S x { t with s9:=[] } M) (o:Below Z.heap.size Z w) (hU:dF Z) (hp:vA Z a d) (hS:∀g,S g->Z.heap.size<=g)
 (C:∀i (h:i<d.length),d[i].s.size<=1000000000) (hlen:d.length<=500000000) (hM:M<=500000000) (h1:0<=b) (h2:b<=1000000000000) (hw0:1<=c.w) (hw1:c.w<=1000000000):
 Calls prog 175 #[.pointer (some ⟨l,0,none⟩),.pointer (some ⟨x,0,none⟩),.slice a d.length cap] w fun e J=>e=.returned (.bool (aL c.w b d))/\(aL c.w b d=true->lC J (fun g=>S g\/w.heap.size<=g) x { t with s9:=d} (M+d.length))/\gA S w J:=by
 have HLB:Hid (lA w l (oW c b m) 146):=hl;have HSL:Hid (¬S l):=hSl;have HI:Hid (lC w S x { t with s9:=[] } M):=h;have H0:Hid _:=o;have HU:Hid (dF Z):=hU;have HPI:Hid (vA Z a d):=hp;have HSS:Hid _:=hS;have HBB:Hid _:=C;clear h o hU hp hS C hl hSl;go_enter func175,ntmps175;go_wp2;go_loopw [7,8,9,12] (fun _ _ _ j wr=>∃k:Nat,k<=d.length/\j=.int .i64 k/\vH (iH c.w b d) k=true/\lC wr (fun g=>S g\/w.heap.size<=g) x { t with s9:=d.take k} (M+k)/\gA S w wr) (fun _ _ _ j _=>d.length-(intOf j).toNat)
 case atStart=>exact⟨0,Ha _,rfl,rfl,HI.out.keep (fun g _ I=>⟨rfl,Ba I⟩),gA.refl _ _⟩
 case round=>
  obtain⟨k,hk,rfl,hok,H,Y⟩:=hrel;have HOK:Hid _:=hok;have L:Hid (lC wr (fun g=>S g\/w.heap.size<=g) x { t with s9:=d.take k} (M+k)):=H;have A:Hid _:=Y;have B0:Hid _:=H0.out.trans (Y.below H0.out.size (fun k hk I=>by have:=HSS.out k I;omega));clear hok H Y;by_cases u:k<d.length
  ·obtain⟨pb,po,rfl,hpl,c0,c1⟩:=(HPI.out.later B0.out).at u;have HMF:Hid (iH c.w b d k=false->aL c.w b d=false):=fun h=>eN h u;have y:Hid (iH c.w b d k=(yJ d k&&aJ d[k].s&&uA d[k].n 0 b&&decide (b-d[k].n<c.w))):=pU u;have hsz:=HBB.out k u;have F:Hid (0<k->∃f:ByteArray,yJ d k=uH f d[k].s/\wr.cell? ⟨pb,po+(k-1)*2,none⟩=some (.string f)):=fun o=>by
    refine⟨_,iR o u,?_⟩;obtain⟨b',o',e,_,u0,_⟩:=(HPI.out.later B0.out).at (i:=k-1) (by omega)
    simp only[Ja,Addr.mk.injEq,Ub]at e;rw[e.1,e.2];exact u0
   have Q:Hid (k=0->yJ d k=true):=fun o=>by subst o;rfl
   have HTK:Hid (iH c.w b d k=true->vH (iH c.w b d) (k+1)=true/\qA (·.s) d[k] (d.take k)=d.take (k+1)/\zB (·.s) d[k].s (d.take k)=none):=fun h=>by
    have h1:vH (iH c.w b d) (k+1)=true:=by rw[lJ,HOK.out,h];rfl
    exact⟨h1,PH (key:=fun p:fA=>p.s) u (IY h1 (by omega))⟩
   have HLW:Hid (lA wr l (oW c b m) 146):=A.out.blk HLB.out HSL.out;have HMT:Hid (∀W,dF W->Calls prog 216 #[.string d[k].s] W fun e J=>e=.returned (.string (tC d[k].s))/\Below W.heap.size W J):=fun W hW=>fX d[k].s W hsz hW;have hms:=iQ d[k].s;have HTL:Hid ((d.take k).length<=1000000000):=by show _<=_;rw[Ta];omega
   generalize d[k]=P at *;go_upto_region 4 with fail;have R:Hid (lA (wr.alloc (.cells #[.string P.s,.int .i64 P.n] 113)) wr.heap.size #[.string P.s,.int .i64 P.n] 113):=lA.new _ _ _;have q:Hid (Below wr.heap.size wr (wr.alloc (.cells #[.string P.s,.int .i64 P.n] 113))):=cA _ _;have x0:(wr.alloc (.cells #[.string P.s,.int .i64 P.n] 113)).cell? ⟨wr.heap.size,0,none⟩=some (.string P.s):=R.out.cell 0;generalize wr.alloc (.cells #[.string P.s,.int .i64 P.n] 113)=W0 at *;go_wp2_with fail;refine(HMT.out _ (HU.out.later (B0.out.trans (q.out.mono B0.out.size)))).mono ?_;rintro e W ⟨rfl,r⟩;have v:Hid (0<k->∃f:ByteArray,yJ d k=uH f P.s/\W.cell? ⟨pb,po+(k-1)*2,none⟩=some (.string f)):=fun o=>by
    obtain⟨f,e1,e2⟩:=F.out o;exact⟨f,e1,((pA q.out r).cell hpl).trans e2⟩
   have B:Hid (lA W wr.heap.size #[.string P.s,.int .i64 P.n] 113):=R.out.later r;have HIW:Hid (lC W (fun g=>S g\/w.heap.size<=g) x { t with s9:=d.take k} (M+k)):=L.out.later (pA q.out r);have HTW:Hid _:=A.out.trans' (gA.of (pA q.out r));have O:Hid (lA W l (oW c b m) 146):=HLW.out.later (pA q.out r);generalize wr.heap.size=mb at *;clear c0 c1 F hpl L A B0 q r x0 R HLW HMT wr W0;go_upto_region 5 with fail;go_cut [53] (fun s wx=>s=.bool (!(iH c.w b d k))/\Below W.heap.size W wx)
   case first=>
    have d0:=oA.cells (show W.cell? ⟨mb,0,none⟩=some (.string P.s) from B.out.cell 0);have d1:=oA.cells (show W.cell? ⟨mb,1,none⟩=some (.int .i64 P.n) from B.out.cell 1);have d2:=oA.cells (show W.cell? ⟨l,6,none⟩=some (.int .i64 b) from O.out.cell 6);have hnel:=oA.there W;have N:Hid _:=fun W=>pE P.n b W;have HEX:Hid _:=fun(x:oA W)=>JV l m c b x.w' (O.out.later x.h) h1 h2 hw0 hw1;have X:(∃f:ByteArray,(0:Int)<k/\0<k/\W.cell? ⟨pb,po+(k-1)*2,none⟩=some (.string f)/\Op.bytesLess f.toList P.s.toList=false/\Hid (iH c.w b d k=false))\/yJ d k=true/\(decide ((0:Int)<k)=false/\decide (0<k)=false\/∃f:ByteArray,(0:Int)<k/\0<k/\W.cell? ⟨pb,po+(k-1)*2,none⟩=some (.string f)/\Op.bytesLess f.toList P.s.toList=true):=by
     by_cases o:0<k
     ·obtain⟨f,hp,G⟩:=v.out o;cases C:Op.bytesLess f.toList P.s.toList
      ·exact Ba ⟨f,by omega,o,G,C,by show _=_;rw[y.out,hp,uH,C];simp⟩
      ·exact Ea ⟨hp.trans C,Ea ⟨f,by omega,o,G,C⟩⟩
     ·exact Ea ⟨Q.out (by omega),Ba ⟨by simp;omega,by simp;omega⟩⟩
    rcases X with⟨f,o,h0',G,C,HV⟩|⟨hpt,X⟩
    ·have d3:=oA.cells G;clear G;refine jA (by kernel_rfl) (by kernel_rfl) ?_;repeat (go_big_quiet_step (first|(go_at_call 59;exact jB (N.out _))|(go_at_call 217;exact tA (HEX.out _))))
     refine wpQuiet_nil ?_;rintro _ ⟨x,rfl⟩;go_wp2_with fail;go_meet;exact⟨by rw[HV.out];rfl,x.h⟩
    have hf:(tC P.s).toList.isEmpty=true/\Hid (iH c.w b d k=false)\/(tC P.s).toList.isEmpty=false/\(uA P.n 0 b=false/\Hid (iH c.w b d k=false)\/(uA P.n 0 b=true/\0<=P.n/\P.n<=b)/\(P.n<=b-c.w/\Hid (iH c.w b d k=false)\/¬P.n<=b-c.w/\decide (P.n<=b-c.w)=false/\Hid (iH c.w b d k=true))):=by
     have V:=y.out;rw[hpt,aJ]at V;cases f1:(tC P.s).toList.isEmpty
     ·rw[f1]at V;refine Ea ⟨rfl,?_⟩;cases T:uA P.n 0 b
      ·exact Ba ⟨rfl,by show _=_;rw[V,T];simp⟩
      ·refine Ea ⟨⟨rfl,qK T⟩,?_⟩;rw[T]at V;by_cases f3:P.n<=b-c.w
       ·exact Ba ⟨f3,by show _=_;rw[V];simp;omega⟩
       ·exact Ea ⟨f3,by simpa using f3,by show _=_;rw[V];simp;omega⟩
     ·exact Ba ⟨rfl,by show _=_;rw[V,f1];simp⟩
    clear v Q y hpt;rcases X with⟨hd,hd'⟩|⟨f,o,h0',G,C⟩
    rotate_left;have d3:=oA.cells G;clear G;all_goals
     rcases hf with⟨f1,HV⟩|⟨f1,⟨T,HV⟩|⟨⟨T,r0,r1⟩,⟨f3,HV⟩|⟨f3,hx2,HV⟩⟩⟩
     all_goals
      try rw[T]at N
      try clear T
      refine jA (by kernel_rfl) (by kernel_rfl) ?_;repeat (go_big_quiet_step (first|(go_at_call 59;exact jB (N.out _))|(go_at_call 217;exact tA (HEX.out _))))
      refine wpQuiet_nil ?_;rintro _ ⟨x,rfl⟩;go_wp2_with fail;go_meet;exact⟨by rw[HV.out];rfl,x.h⟩
   obtain⟨rfl,D⟩:=hcut;rename World=>K;have MB7:Hid (lA K mb #[.string P.s,.int .i64 P.n] 113):=B.out.later D;have HI7:Hid (lC K (fun g=>S g\/w.heap.size<=g) x { t with s9:=d.take k} (M+k)):=HIW.out.later D;have z:Hid _:=HTW.out.trans' (gA.of D);clear D B HIW HTW v O;by_cases f4:iH c.w b d k=false
   ·have HF4:Hid _:=HMF.out f4;rw[f4];clear f4;go_wp2;go_ret;exact⟨kA HF4.out.symm,fun h=>absurd h (by rw[HF4.out];simp),z.out⟩
   ·have U:iH c.w b d k=true:=by simpa using f4
    obtain⟨g1,g2,g3⟩:=HTK.out U;have G1:Hid _:=g1;have G2:Hid _:=g2;have E:Hid (Calls prog 218 #[.pointer (some ⟨x,0,none⟩),.string P.s,.string (tC P.s),.int .i64 P.n] K fun e J=>e=.returned (.tuple #[])/\lC J (fun g=>(S g\/w.heap.size<=g)\/K.heap.size<=g) x { t with s9:=qA (·.s) ⟨P.s,P.n⟩ (d.take k) } (M+k+1)/\gA (fun g=>S g\/w.heap.size<=g) K J):=
     vq x { t with s9:=d.take k} P.s P.n _ (M+k) K HI7.out g3 (by unfold maxLen;omega) hms (by omega) HTL.out
    have x1:K.cell? ⟨mb,0,none⟩=some (.string P.s):=MB7.out.cell 0;have x2:K.cell? ⟨mb,1,none⟩=some (.int .i64 P.n):=MB7.out.cell 1;rw[U];clear f4 U g1 g2 g3 HMF y Q HTK;go_wp2_with fail;refine E.out.mono ?_;rintro e w8 ⟨rfl,hi8,ht8⟩;have HN:Hid (lC w8 (fun g=>S g\/w.heap.size<=g) x { t with s9:=d.take (k+1) } (M+(k+1))):=by
     have:=hi8.keep (w':=w8) (S':=fun g=>S g\/w.heap.size<=g) (fun g _ I=>⟨rfl,by rcases I with I|I;exact I;exact Ea (by have:=z.out.size;omega)⟩);rw[show(⟨P.s,P.n⟩:fA)=P from rfl,G2.out]at this;exact this
    have HT8:Hid _:=z.out.trans ht8;clear hi8 ht8 E x1 x2 HI7 z;go_wp2;exact⟨⟨k+1,by omega,by go_num,G1.out,HN.out,HT8.out⟩,by simp[intOf];omega⟩
  ·have ek:k=d.length:=by omega
   have HEND:Hid (aL c.w b d=true):=by have:=HOK.out;rw[ek]at this;exact this
   have HIE:Hid (lC wr (fun g=>S g\/w.heap.size<=g) x { t with s9:=d} (M+d.length)):=by have:=L.out;rw[ek,Qb]at this;exact this
   clear ek;go_wp2;go_ret;exact⟨kA HEND.out.symm,fun _=>HIE.out,A.out⟩
end
section
open Go.Maps
structure gJ (w:World) (B:Nat→Prop) (T:Nat→Option Nat) (l m:Nat) (c:nB) (now:Int) (L:List (eA×Nat)) (M:Nat):Prop where
 blk:lA w l (oW c now m) 146
 ten:w.ownsMap prog 9 kD m L.length (oC (L.map fun p=>(p.1.name,eE p.2)))
 rise:vB (fun p:eA×Nat=>p.1.name) L
 idx:∀p∈L,lC w (fun g=>B g∧T g=some p.2) p.2 p.1 M
 nd:(L.map (·.2)).Nodup
 tl:T l=none
 tm:T m=none
 lB:B l
 mB:B m
def yD (w:World) (B:Nat->Prop) (l m:Nat) (c:nB) (a:Int) (b:List eA) (M:Nat):Prop:=∃T L,gJ w B T l m c a L M/\L.map (·.1)=b
theorem gJ.lm {w:World} {B:Nat->Prop} {T:Nat->Option Nat} {l m:Nat} {c:nB} {a:Int} {L:List (eA×Nat)} {M:Nat} (h:gJ w B T l m c a L M):m≠l:=uB h.ten h.blk
theorem gJ.keep {w w':World} {B:Nat->Prop} {T:Nat->Option Nat} {l m:Nat} {c:nB} {b:Int} {L:List (eA×Nat)} {M:Nat} (h:gJ w B T l m c b L M) (d:∀g,g<w.heap.size->B g->w'.heap[g]?=w.heap[g]?):gJ w' B T l m c b L M:=
 { h with
  blk:=(d l (aA h.blk) h.lB).trans h.blk
  ten:=by
   have e:=h.ten.lt;obtain⟨i,a,j,r⟩:=h.ten;exact⟨i,a,(d m e h.mB).trans j,r⟩
  idx:=fun p n=>(h.idx p n).keep fun g k f=>⟨d g k f.1,f⟩ }
theorem yD.later {w d:World} {B:Nat->Prop} {l m:Nat} {c:nB} {a:Int} {b:List eA} {M:Nat} (h:yD w B l m c a b M) (f:Below w.heap.size w d):yD d B l m c a b M:=by
 obtain⟨T,L,h,e⟩:=h;exact⟨T,L,h.keep fun g i _=>f.block g i,e⟩
theorem ko {w i H A v:World} {B:Nat->Prop} {T:Nat->Option Nat} {l m x n:Nat} {c:nB} {r:Int} {L:List (eA×Nat)} {M M':Nat} {t:eA} (h:gJ w B T l m c r L M) (I:∀g,w.heap.size<=g->B g) (k:zB (fun p:eA×Nat=>p.1.name) t.name L=none)
 (C:Below w.heap.size w i) (D:Below i.heap.size i H) (R:i.heap.size<=x) (F:gA (·=m) H A) (s:A.ownsMap prog 9 kD m n (DataW.put (oC (L.map fun p=>(p.1.name,eE p.2))) (kL t.name) (eE x)))
 (G:gA (fun g=>i.heap.size<=g) A v) (y:lC v (fun g=>i.heap.size<=g) x t M') (J:M'<=M):
 yD v B l m c r ((qA (fun p:eA×Nat=>p.1.name) (t,x) L).map (·.1)) M:=by
 have E:=aA h.blk;have K:=h.ten.lt;have O:=C.size;have P:=D.size;have Q:=F.size;have j:∀p,p∈qA (fun p:eA×Nat=>p.1.name) (t,x) L->p=(t,x)\/p∈L:=fun p d=>tI d;have f:=IC (key:=fun p:eA×Nat=>p.1.name) (a:=(t,x)) k;have b:∀g,g<w.heap.size->g≠m->v.heap[g]?=w.heap[g]?:=fun g u z=>by
  rw[G.block g (by omega) (by omega),F.block g (by omega) z,D.block g (by omega),C.block g u]
 have o:DataW.put (oC (L.map fun p=>(p.1.name,eE p.2))) (kL t.name) (eE x)=oC ((qA (fun p:eA×Nat=>p.1.name) (t,x) L).map fun p=>(p.1.name,eE p.2)):=
  IM (key:=fun p:eA×Nat=>p.1.name) (fun p=>eE p.2) (t,x) h.rise
 refine⟨fun g=>if g<w.heap.size then T g else some x,_,?_,rfl⟩;exact {
  blk:=(b l E h.lm.symm).trans h.blk
  ten:=by
   have:=SA (G.map s (by omega));rw[o,fL]at this;exact this
  rise:=dI h.rise
  idx:=fun p d=>by
   rcases j p d with rfl|d
   ·refine(y.mono J).keep fun g _ q=>⟨rfl,I g (by omega),?_⟩
    show(if g<w.heap.size then T g else some x)=some x;rw[Ca (by omega)]
   ·refine(h.idx p d).keep fun g u q=>⟨b g u (fun e=>by rw[e,h.tm]at q;cases q.2),q.1,?_⟩
    show(if g<w.heap.size then T g else some x)=_;rw[Ga u];exact q.2
  nd:=by
   rw[(f.map _).nodup_iff,Sb,List.nodup_cons];refine⟨fun N=>?_,h.nd⟩;obtain⟨p,d,e⟩:=Uc.1 N;have:=(h.idx p d).lt;simp only at e;omega
  tl:=by show(if l<w.heap.size then T l else _)=none;rw[Ga E];exact h.tl
  tm:=by show(if m<w.heap.size then T m else _)=none;rw[Ga K];exact h.tm
  lB:=h.lB
  mB:=h.mB}
theorem aAs {L:List (eA×Nat)} {k:ByteArray} (h:zB (·.name) k (L.map (·.1))=none):zB (fun p:eA×Nat=>p.1.name) k L=none:=by
 have:=eQ (key:=fun p:eA×Nat=>p.1.name) (key':=fun t:eA=>t.name) (fun p=>p.1) (fun _=>rfl) k L;rw[h]at this;cases hg:zB (fun p:eA×Nat=>p.1.name) k L with
 |none=>rfl
 |some q=>rw[hg]at this;cases this
theorem aGo (l m:Nat) (t:eA) (o q:Option Addr) (y z:Nat) (c:nB) (d:Int) (X:List eA) (M:Nat) (j w:World) (h:yD w (j.heap.size<=·) l m c d X M) (h0:Below j.heap.size j w) (hU:dF j) (p1:vA j o t.m9) (p2:vA j q t.s9)
 (F:zB (·.name) t.name X=none) (hn:t.name.size<=maxLen) (hb1:∀i (h:i<t.m9.length),t.m9[i].s.size<=1000000000) (f:∀i (h:i<t.s9.length),t.s9[i].s.size<=1000000000) (hl1:t.m9.length<=500000000) (hl2:t.s9.length<=500000000) (hLL:X.length<=1000000000) (hM:t.s9.length<=M)
 (hn0:0<=d) (hn1:d<=1000000000000) (hw0:1<=c.w) (hw1:c.w<=1000000000):
 Calls prog 139 #[.pointer (some ⟨l,0,none⟩),.agg #[.string t.name,.int .i64 t.l9,.slice o t.m9.length y,.slice q t.s9.length z]] w fun e B=>e=.returned (.bool (kP c.w d t))/\
  (kP c.w d t=true->yD B (j.heap.size<=·) l m c d (qA (·.name) t X) M)/\gA (·=m) w B:=by
 obtain⟨T,L,h,hL⟩:=h;have b:Hid (kP c.w d t=(kC t.name&&uA t.l9 (-1) 1000000&&yL t.m9&&aL c.w d t.s9&&!bE t)):=rfl;have n:Hid _:=fun W=>kN t.name W hn;by_cases e1:kC t.name=false
 ·rw[e1]at n b;clear h;go_enter func139,ntmps139;go_wp2_with fail;refine(n.out _).mono ?_;rintro e C ⟨rfl,hw⟩;replace hw:=hw.symm;subst hw;go_wp2;go_ret;exact⟨kA (by rw[b.out];simp),fun h=>absurd h (by rw[b.out];simp),gA.of (cA _ _)⟩
 have e1':kC t.name=true:=by simpa using e1
 rw[e1']at n b;clear e1 e1';have A:Hid _:=fun W=>eS t.l9 W;by_cases e2:uA t.l9 (-1) 1000000=false
 ·rw[e2]at A b;clear h;go_enter func139,ntmps139;go_wp2_with fail;refine(n.out _).mono ?_;rintro e C ⟨rfl,hw⟩;replace hw:=hw.symm;subst hw;go_wp2_with fail;refine(A.out _).mono ?_;rintro e C ⟨rfl,hw⟩;replace hw:=hw.symm;subst hw;go_wp2;go_ret;exact⟨kA (by rw[b.out];simp),fun h=>absurd h (by rw[b.out];simp),gA.of (cA _ _)⟩
 have e2':uA t.l9 (-1) 1000000=true:=by simpa using e2
 rw[e2']at A b;clear e2 e2';have U:Hid _:=h;have hml:=h.ten.lt;have hll:=aA h.blk;have G:=h0.size;have HLE:Hid _:=hL;have hLn:L.length=X.length:=by rw[<-hL,Ua]
 have HGN:Hid _:=aAs (by rw[hL];exact F);have HK:Hid _:=sK hn;have HNI:Hid _:=fun W=>DY t.l9 t.name W;have HLL:Hid (∀(S:Nat->Prop) (x:Nat) (W:World),lC W S x ⟨t.name,t.l9,[],[]⟩ 0->Below j.heap.size j W->(∀g,S g->j.heap.size<=g)->Calls prog 174 #[.pointer (some ⟨x,0,none⟩),.slice o t.m9.length y] W fun e B=>e=.returned (.bool (yL t.m9))/\(yL t.m9=true->lC B (fun g=>S g\/W.heap.size<=g) x ⟨t.name,t.l9,t.m9,[]⟩ 0)/\gA S W B):=
  fun S x W hi hb v=>QG x o y t.m9 ⟨t.name,t.l9,[],[]⟩ S 0 j W hi hb hU p1 v hb1 (by omega)
 have HSS:Hid (∀(S:Nat->Prop) (x:Nat) (W:World),lC W S x ⟨t.name,t.l9,t.m9,[]⟩ 0->Below j.heap.size j W->(∀g,S g->j.heap.size<=g)->lA W l (oW c d m) 146->¬S l->Calls prog 175 #[.pointer (some ⟨l,0,none⟩),.pointer (some ⟨x,0,none⟩),.slice q t.s9.length z] W fun e B=>e=.returned (.bool (aL c.w d t.s9))/\(aL c.w d t.s9=true->lC B (fun g=>S g\/W.heap.size<=g) x ⟨t.name,t.l9,t.m9,t.s9⟩ (0+t.s9.length))/\gA S W B):=
  fun S x W hi hb v hbl hsl=>QH l m x q z t.s9 ⟨t.name,t.l9,t.m9,[]⟩ c d S 0 j W hbl hsl hi hb hU p2 v f hl2 (by omega) hn0 hn1 hw0 hw1
 have H0:Hid _:=h0;clear h p1 p2 F hn hb1 f hl1 hl2 hL h0 hU;go_enter func139,ntmps139;go_wp2_with fail;refine(n.out _).mono ?_;rintro e C ⟨rfl,hw⟩;replace hw:=hw.symm;subst hw;go_wp2_with fail;refine(A.out _).mono ?_;rintro e C ⟨rfl,hw⟩;replace hw:=hw.symm;subst hw;go_wp2_with fail;have B1:Hid (Below w.heap.size w (w.alloc (.cells #[.string t.name,.int .i64 t.l9,.slice o t.m9.length y,.slice q t.s9.length z] 107))):=cA _ _;have X1:Hid (lA (w.alloc (.cells #[.string t.name,.int .i64 t.l9,.slice o t.m9.length y,.slice q t.s9.length z] 107)) w.heap.size #[.string t.name,.int .i64 t.l9,.slice o t.m9.length y,.slice q t.s9.length z] 107):=lA.new _ _ _;have hz1:w.heap.size<(w.alloc (.cells #[.string t.name,.int .i64 t.l9,.slice o t.m9.length y,.slice q t.s9.length z] 107)).heap.size:=by simp
 generalize w.alloc (.cells #[.string t.name,.int .i64 t.l9,.slice o t.m9.length y,.slice q t.s9.length z] 107)=C at *;refine(HNI.out C).mono ?_;rintro e Y ⟨x,rfl,hx,hi2,f⟩;have B2:Hid _:=f;have r:=pA B1.out f;have X2:Hid (lA Y w.heap.size #[.string t.name,.int .i64 t.l9,.slice o t.m9.length y,.slice q t.s9.length z] 107):=X1.out.later f;have L2:Hid (lA Y l (oW c d m) 146):=U.out.blk.later r;have J:=(gA.of (S:=fun _=>False) r).map U.out.ten (fun e=>e);obtain⟨Z,run3,H,u⟩:=J.drew.update vJ underlying144 (by unfold maxLen;omega) HK.out (rV x);have I:gA (·=m) Y Z:=(gA.grown (a:=Y) ⟨u.os,u.tape,u.output,u.size,u.block⟩).mono fun i _ e=>by simp only[Ja]at e;exact e.symm
 have T3:Hid _:=I;have E:Hid (Z.ownsMap prog 9 kD m (L.length+1) (DataW.put (oC (L.map fun p=>(p.1.name,eE p.2))) (kL t.name) (eE x))):=H;have HI3:Hid (lC Z (fun g=>C.heap.size<=g) x ⟨t.name,t.l9,[],[]⟩ 0):=hi2.keep fun g hg v=>⟨I.block g hg (by omega),v⟩
 have hmb:j.heap.size<=m:=U.out.mB;have B3:Hid _:=(H0.out.trans (r.mono G)).trans (I.below (by have:=r.size;omega) (fun k hk=>by omega));have X3:Hid (lA Z w.heap.size #[.string t.name,.int .i64 t.l9,.slice o t.m9.length y,.slice q t.s9.length z] 107):=I.blk X2.out (by omega);have L3:Hid (lA Z l (oW c d m) 146):=I.blk L2.out U.out.lm.symm;have x0:Y.cell? ⟨l,7,none⟩=some (.map (some m)):=L2.out.cell 7;have x1:Y.cell? ⟨w.heap.size,0,none⟩=some (.string t.name):=X2.out.cell 0;have hz2:=f.size;have hz3:=I.size;have TW3:Hid _:=(gA.of r).trans' I;clear f r J H u I hi2 X1 X2 L2 HNI n A;go_upto_region 4 with fail;go_cut [25] (fun _ wx=>wx=Z)
 case first=>
  go_region
  go_wp2_with fail;go_meet;exact rfl
 subst hcut;clear run3 x0 x1;have y0:wc.cell? ⟨w.heap.size,2,none⟩=some (.slice o t.m9.length y):=X3.out.cell 2;go_wp2_with fail;refine(HLL.out _ x wc HI3.out B3.out (fun g hg=>by omega)).mono ?_;rintro e w4 ⟨rfl,hi4,V⟩;have HI4:Hid _:=hi4;have T4:Hid _:=V;have N:Hid _:=TW3.out.trans (V.mono fun i _ e=>Ea (by omega));have X4:Hid (lA w4 w.heap.size #[.string t.name,.int .i64 t.l9,.slice o t.m9.length y,.slice q t.s9.length z] 107):=V.blk X3.out (by omega);have L4:Hid (lA w4 l (oW c d m) 146):=V.blk L3.out (by omega);have B4:Hid _:=B3.out.trans (V.below (by omega) (fun k hk=>by omega));clear hi4 V y0 HLL X3 L3 HI3 B3 TW3;by_cases e3:yL t.m9=false
 ·rw[e3]at b |-
  go_wp2;go_ret;exact⟨kA (by rw[b.out];simp),fun h=>absurd h (by rw[b.out];simp),N.out⟩
 have P:yL t.m9=true:=by simpa using e3
 have D:Hid (lC w4 (fun g=>C.heap.size<=g) x ⟨t.name,t.l9,t.m9,[]⟩ 0):=(HI4.out P).keep fun g _ v=>⟨rfl,by rcases v with v|v<;>omega⟩
 rw[P]at b |-
 clear e3 P HI4;have y1:w4.cell? ⟨w.heap.size,3,none⟩=some (.slice q t.s9.length z):=X4.out.cell 3;go_wp2_with fail;refine(HSS.out _ x w4 D.out B4.out (fun g hg=>by omega) L4.out (by omega)).mono ?_;rintro e w5 ⟨rfl,R,t5⟩;have O:Hid _:=N.out.trans (t5.mono fun i _ e=>Ea (by omega));have hz4:=T4.out.size;by_cases e4:aL c.w d t.s9=false
 ·rw[e4]at b |-
  clear R t5;go_wp2;go_ret;exact⟨kA (by rw[b.out];simp),fun h=>absurd h (by rw[b.out];simp),O.out⟩
 have Q:aL c.w d t.s9=true:=by simpa using e4
 have K:Hid (lC w5 (fun g=>C.heap.size<=g) x t t.s9.length):=by
  have:=(R Q).keep (w':=w5) (S':=fun g=>C.heap.size<=g) fun g _ v=>⟨rfl,by rcases v with v|v<;>omega⟩
  rw[Oa]at this;exact this
 have T35:Hid _:=T4.out.trans' t5;rw[Q]at b |-
 have HEND:Hid (yD w5 (j.heap.size<=·) l m c d (qA (·.name) t X) M):=by
  have:=ko U.out (fun g hg=>Ma G hg) HGN.out B1.out B2.out hx T3.out E.out T35.out K.out hM;rw[fQ (key':=fun t:eA=>t.name) (fun p:eA×Nat=>p.1) (fun _=>rfl),HLE.out]at this;exact this
 clear e4 Q R t5 T35 T4 HSS D B4 L4 X4 N y1 E T3 U;have HID:Hid (Calls prog 176 #[.pointer (some ⟨x,0,none⟩)] w5 fun e B=>e=.returned (.bool (bE t))/\B=w5):=PA x t _ _ w5 K.out;go_wp2_with fail;refine HID.out.mono ?_;rintro e w6 ⟨rfl,hw⟩;replace hw:=hw.symm;subst hw;clear HID K;cases bA:bE t with
 |true=>
  rw[bA]at b;go_wp2;go_ret;exact⟨kA (by rw[b.out];rfl),fun h=>absurd h (by rw[b.out];simp),O.out⟩
 |false=>
  rw[bA]at b;go_wp2;go_ret;exact⟨kA (by rw[b.out];rfl),fun _=>HEND.out,O.out⟩
end
section
open Go.Maps
theorem yD.re {w q:World} {B i:Nat->Prop} {l m:Nat} {c:nB} {b:Int} {o:List eA} {M:Nat} (h:yD w B l m c b o M) (d:∀g,g<w.heap.size->B g->q.heap[g]?=w.heap[g]?/\i g):yD q i l m c b o M:=by
 obtain⟨T,L,h,e⟩:=h;have k:=d l (aA h.blk) h.lB;have n:=d m h.ten.lt h.mB;refine⟨T,L,{ h with blk:=k.1.trans h.blk,ten:=?_,idx:=fun p u=>(h.idx p u).keep fun g j f=>⟨(d g j f.1).1,(d g j f.1).2,f.2⟩,lB:=k.2,mB:=n.2},e⟩;obtain⟨s,a,t,r⟩:=h.ten;exact⟨s,a,n.1.trans t,r⟩
def aJo (a:List eA) (M:Nat):Prop:=∀i (h:i<a.length),a[i].name.size<=maxLen/\(∀j (b:j<a[i].m9.length),a[i].m9[j].s.size<=1000000000)/\(∀j (b:j<a[i].s9.length),a[i].s9[j].s.size<=1000000000)/\a[i].m9.length<=500000000/\a[i].s9.length<=500000000/\a[i].s9.length<=M
def YA (c:nB) (a:Int) (b:List eA) (M:Nat) (w:World) (e:Ending) (d:World):Prop:=
 (iB c a b=false/\e=.returned (.tuple #[.pointer none,.bool false])/\Below w.heap.size w d)\/
 (iB c a b=true/\∃l m,e=.returned (.tuple #[.pointer (some ⟨l,0,none⟩),.bool true])/\w.heap.size<=l/\yD d (w.heap.size<=·) l m c a b M/\Below w.heap.size w d)
theorem lq (c:nB) (d:Int) (a:Option Addr) (C:Nat) (f:List eA) (M:Nat) (w:World) (hf:eC w a f) (X:aJo f M) (hlen:f.length<=1000000000) (hU:dF w):
 Calls prog 100 #[tE c,.agg #[.int .i64 d,.slice a f.length C]] w fun e n=>YA c d f M w e n:=by
 have HC:Hid _:=fun W=>KB c W;have r:Hid (iB c d f=(vF c&&uA d 0 1000000000000&&decide (f.length<=10000) &&yM c.w d f)):=rfl;have HF:Hid (eC w a f):=hf;have HB:Hid (aJo f M):=X;have HU:Hid (dF w):=hU;have HWI:Hid _:=fun W=>pE d 1000000000000 W;have HCW:Hid (vF c=true->1<=c.w/\c.w<=1000000000):=fun h=>by
  have:uA c.w 1 1000000000=true:=by
   cases hb:uA c.w 1 1000000000 with
   |true=>rfl
   |false=>rw[vF,hb]at h;simp at h
  exact qK this
 clear hf X hU;unfold tE at *;go_enter func100,ntmps100;go_wp2_with fail;refine(HC.out _).mono ?_;rintro e l ⟨rfl,N⟩;have O:Hid _:=pA (pA (cA _ _) (cA _ _)) N;have C1:Hid (lA l w.heap.size #[.int .i64 c.w,.int .i64 c.tl,.int .i64 c.ml,.int .i64 c.sh,.int .i64 c.ha,.int .i64 c.sg] 40):=bA (((lA.new _ _ _).alloc _).later N);have S1:Hid _:=bA (by have:=(lA.new (w.alloc (.cells #[.int .i64 c.w,.int .i64 c.tl,.int .i64 c.ml,.int .i64 c.sh,.int .i64 c.ha,.int .i64 c.sg] 40)) #[.int .i64 d,.slice a f.length C] 35).later N;simpa using this);have s0:l.cell? ⟨w.heap.size+1,0,none⟩=some (.int .i64 d):=S1.out.cell 0;have s1:l.cell? ⟨w.heap.size+1,1,none⟩=some (.slice a f.length C):=S1.out.cell 1;have k0:l.cell? ⟨w.heap.size,0,none⟩=some (.int .i64 c.w):=C1.out.cell 0;have k1:l.cell? ⟨w.heap.size,1,none⟩=some (.int .i64 c.tl):=C1.out.cell 1;have k2:l.cell? ⟨w.heap.size,2,none⟩=some (.int .i64 c.ml):=C1.out.cell 2;have k3:l.cell? ⟨w.heap.size,3,none⟩=some (.int .i64 c.sh):=C1.out.cell 3;have k4:l.cell? ⟨w.heap.size,4,none⟩=some (.int .i64 c.ha):=C1.out.cell 4;have k5:l.cell? ⟨w.heap.size,5,none⟩=some (.int .i64 c.sg):=C1.out.cell 5;have a0:=aA S1.out;clear N HC;cases g0:vF c
 ·rw[g0]at r;go_wp2;go_ret2;exact Ba ⟨by rw[r.out];simp,rfl,O.out⟩
 obtain⟨hw0,hw1⟩:=HCW.out g0;rw[g0]at r;clear g0 HCW;go_wp2_with fail;refine fC (HWI.out _) ?_;clear HWI;cases g1:uA d 0 1000000000000
 ·rw[g1]at r;go_wp2;go_ret2;exact Ba ⟨by rw[r.out];simp,rfl,O.out⟩
 obtain⟨hn0,hn1⟩:=qK g1;rw[g1]at r;clear g1;by_cases g2:(10000:Int)<f.length
 ·rw[show decide (f.length<=10000)=false by simp;omega]at r;go_wp2;go_ret2;exact Ba ⟨by rw[r.out];simp,rfl,O.out⟩
 have S:Hid (iB c d f=yM c.w d f):=by show _=_;rw[r.out,show decide (f.length<=10000)=true by simp;omega];simp
 clear r;have hmm:=@run_makeMap prog;go_upto_region 3 with fail;go_cut [6] (fun s wx=>s=.pointer (some ⟨l.heap.size+1,0,none⟩)/\wx=(l.alloc (.map #[] 0)).alloc (.cells (oW c d l.heap.size) 146))
 case first=>
  go_wp2;go_meet;exact⟨rfl,rfl⟩
 obtain⟨rfl,hwc⟩:=hcut;have L0:Hid (yD wc (l.heap.size<=·) (l.heap.size+1) l.heap.size c d (f.take 0) M):=by
  rw[hwc];refine⟨fun _=>none,[],?_,rfl⟩;exact {
   blk:=by have:=lA.new (l.alloc (.map #[] 0)) (oW c d l.heap.size) 146;simpa using this
   ten:=(World.ownsMap_made l _ _ _).alloc _
   rise:=Kd
   idx:=fun p G=>by cases G
   nd:=List.nodup_nil
   tl:=rfl
   tm:=rfl
   lB:=Be _
   mB:=Da _}
 have BC:Hid (Below l.heap.size l wc):=by rw[hwc];exact pA (cA _ _) (cA _ _)
 have s2:=(BC.out.cell a0).trans s1;have HU1:Hid (dF l):=HU.out.later O.out;have HF1:Hid (eC l a f):=HF.out.later O.out;clear hwc hmm s0 s1 k0 k1 k2 k3 k4 k5 C1 HU HF;go_wp2;clear s2;go_loopw [7,8,33] (fun _ _ i wr=>∃k:Nat,k<=f.length/\i=.int .i64 k/\vH (xM c.w d f) k=true/\yD wr (l.heap.size<=·) (l.heap.size+1) l.heap.size c d (f.take k) M/\Below l.heap.size l wr) (fun _ _ i _=>f.length-(intOf i).toNat)
 case atStart=>exact⟨0,Ha _,rfl,rfl,L0.out,BC.out⟩
 case round=>
  obtain⟨k,hk,rfl,hok,Z,V⟩:=hrel;have HOK:Hid _:=hok;have z:Hid (yD wr (l.heap.size<=·) (l.heap.size+1) l.heap.size c d (f.take k) M):=Z;have m:Hid _:=V;clear hok Z V L0 BC;by_cases x:k<f.length
  ·obtain⟨b,o,H,J,I,K,rfl,F,t0,t1,t2,t3,p1,p2⟩:=HF1.out.at x;obtain⟨n1,n2,n3,n4,n5,n6⟩:=HB.out k x;have HAT:Hid (xM c.w d f k=(zL f k&&kP c.w d f[k])):=tU x;have HFAIL:Hid (xM c.w d f k=false->iB c d f=false):=fun h=>by rw[S.out];exact eN h x
   have R:Hid (0<k->∃D:ByteArray,zL f k=uH D f[k].name/\l.cell? ⟨b,o+(k-1)*4,none⟩=some (.string D)):=fun h0=>by
    refine⟨_,lU h0 x,?_⟩;obtain⟨b',o',_,_,_,_,e,_,u0,_⟩:=HF1.out.at (i:=k-1) (by omega)
    simp only[Ja,Addr.mk.injEq,Ub]at e;rw[e.1,e.2];exact u0
   have HPZ:Hid (k=0->zL f k=true):=fun h0=>by subst h0;rfl
   have HTK:Hid (zL f k=true->qA (·.name) f[k] (f.take k)=f.take (k+1)/\zB (·.name) f[k].name (f.take k)=none):=fun h=>PH (key:=fun t:eA=>t.name) x (by
    apply mR;intro j hj;simp only[Ta]at hj;by_cases e:j+1=k
    ·subst e;rw[lU (by omega) x]at h;simpa using h
    ·have:=qO HOK.out (k:=j+1) (by omega);rw[tU (by omega),Na]at this;have h1:=this.1;rw[lU (by omega) (by omega)]at h1;simpa using h1)
   have HTL:Hid ((f.take k).length<=1000000000):=by show _<=_;rw[Ta];omega
   have z0:=(m.out.cell F).trans t0;have z1:=(m.out.cell F).trans t1;have z2:=(m.out.cell F).trans t2;have z3:=(m.out.cell F).trans t3;generalize f[k]=T at *;have Q:Hid (∀W,yD W (l.heap.size<=·) (l.heap.size+1) l.heap.size c d (f.take k) M->Below l.heap.size l W->zL f k=true->Calls prog 139 #[.pointer (some ⟨l.heap.size+1,0,none⟩),.agg #[.string T.name,.int .i64 T.l9,.slice H T.m9.length J,.slice I T.s9.length K]] W fun e n=>e=.returned (.bool (kP c.w d T))/\(kP c.w d T=true->yD n (l.heap.size<=·) (l.heap.size+1) l.heap.size c d (f.take (k+1)) M)/\gA (·=l.heap.size) W n):=fun W hW hb G=>by
    refine(aGo (l.heap.size+1) l.heap.size T H I J K c d (f.take k) M l W hW hb HU1.out p1 p2 (HTK.out G).2 n1 n2 n3 n4 n5 HTL.out n6 hn0 hn1 hw0 hw1).mono ?_;rintro e n ⟨h1,h2,h3⟩;rw[(HTK.out G).1]at h2;exact⟨h1,h2,h3⟩
   have hTBG:l.heap.size+1<wr.heap.size:=by obtain⟨_,_,hz,_⟩:=z.out;exact aA hz.blk
   go_upto_region 7 with fail;have B:Hid (lA (wr.alloc (.cells #[.string T.name,.int .i64 T.l9,.slice H T.m9.length J,.slice I T.s9.length K] 107)) wr.heap.size #[.string T.name,.int .i64 T.l9,.slice H T.m9.length J,.slice I T.s9.length K] 107):=lA.new _ _ _;have u:Hid (Below l.heap.size l (wr.alloc (.cells #[.string T.name,.int .i64 T.l9,.slice H T.m9.length J,.slice I T.s9.length K] 107))):=m.out.trans ((cA _ _).mono m.out.size);have HL2:Hid (yD (wr.alloc (.cells #[.string T.name,.int .i64 T.l9,.slice H T.m9.length J,.slice I T.s9.length K] 107)) (l.heap.size<=·) (l.heap.size+1) l.heap.size c d (f.take k) M):=z.out.later (cA _ _);generalize wr.alloc (.cells #[.string T.name,.int .i64 T.l9,.slice H T.m9.length J,.slice I T.s9.length K] 107)=W at *;generalize wr.heap.size=E at *;have x0:W.cell? ⟨w.heap.size+1,1,none⟩=some (.slice (some ⟨b,o,none⟩) f.length C):=(u.out.cell a0).trans (S1.out.cell 1);have x1:W.cell? ⟨E,0,none⟩=some (.string T.name):=B.out.cell 0;have x2:W.cell? ⟨E,1,none⟩=some (.int .i64 T.l9):=B.out.cell 1;have x3:W.cell? ⟨E,2,none⟩=some (.slice H T.m9.length J):=B.out.cell 2;have x4:W.cell? ⟨E,3,none⟩=some (.slice I T.s9.length K):=B.out.cell 3;have HPR2:Hid (0<k->∃D:ByteArray,zL f k=uH D T.name/\W.cell? ⟨b,o+(k-1)*4,none⟩=some (.string D)):=fun h0=>by
    obtain⟨D,e1,e2⟩:=R.out h0;exact⟨D,e1,(u.out.cell F).trans e2⟩
   have P:Hid _:=fun G W' hW=>Q.out W' (HL2.out.later hW) (u.out.trans (hW.mono u.out.size)) G;have A:=aA B.out;have hWs:=u.out.size;have HBT:Hid _:=fun n (hw:gA (·=l.heap.size) W n)=>u.out.trans (hw.below hWs (fun k hk=>by omega));clear z0 z1 z2 z3 t0 t1 t2 t3 p1 p2 R Q z m B wr;go_cut [57] (fun s wx=>s=.bool (!(xM c.w d f k))/\(xM c.w d f k=true->yD wx (l.heap.size<=·) (l.heap.size+1) l.heap.size c d (f.take (k+1)) M)/\Below l.heap.size l wx)
   case first=>
    by_cases h0:(0:Int)<k
    ·have h0':0<k:=by omega
     obtain⟨D,G,cp⟩:=HPR2.out h0';obtain⟨j,hj⟩:∃j,j=k-1:=⟨_,rfl⟩
     rw[<-hj]at cp;have hi0:IntKind.i64.wrap ((k:Int)-1)=(j:Int):=by
      have:(k:Int)-1=(j:Int):=by omega
      rw[this];simp only[IntKind.wrap,IntKind.bits,IntKind.signed];simp;omega
     have hi1:(j:Int)<f.length:=by omega
     clear hj;by_cases hb:Op.bytesLess D.toList T.name.toList=true
     ·have y:zL f k=true:=by rw[G];exact hb
      have HLD:=bA (P.out y);have U:Hid (xM c.w d f k=kP c.w d T):=by show _=_;rw[HAT.out,y,Nc]
      clear G y;have HKS:Hid (∀n,gA (·=l.heap.size) W n->n.cell? ⟨w.heap.size+1,1,none⟩=some (.slice (some ⟨b,o,none⟩) f.length C)/\n.cell? ⟨b,o+j*4,none⟩=some (.string D)/\n.cell? ⟨E,0,none⟩=some (.string T.name)/\n.cell? ⟨E,1,none⟩=some (.int .i64 T.l9)/\n.cell? ⟨E,2,none⟩=some (.slice H T.m9.length J)/\n.cell? ⟨E,3,none⟩=some (.slice I T.s9.length K)):=fun n hw=>by
       have Y:∀g,g<W.heap.size->g≠l.heap.size->∀q,n.cell? ⟨g,q,none⟩=W.cell? ⟨g,q,none⟩:=fun g h1 h2 q=>World.cell?_of_block (hw.block g h1 h2);exact⟨(Y _ (by omega) (by omega) _).trans x0,(Y _ (by omega) (by omega) _).trans cp,(Y _ A (by omega) _).trans x1,(Y _ A (by omega) _).trans x2,(Y _ A (by omega) _).trans x3,(Y _ A (by omega) _).trans x4⟩
      go_region_held3 (fun n=>n.cell? ⟨w.heap.size+1,1,none⟩=some (.slice (some ⟨b,o,none⟩) f.length C)/\n.cell? ⟨b,o+j*4,none⟩=some (.string D)/\n.cell? ⟨E,0,none⟩=some (.string T.name)/\n.cell? ⟨E,1,none⟩=some (.int .i64 T.l9)/\n.cell? ⟨E,2,none⟩=some (.slice H T.m9.length J)/\n.cell? ⟨E,3,none⟩=some (.slice I T.s9.length K))
       (first|go_keep|exact HKS.out _ hs8)
       (first|(go_at_call 139;refine(HLD.out _ (by repeat (first|with_reducible exact Below.refl _ _|exact(Below.refl _ _).drew|with_reducible refine Below.drew ?_))).mono ?_;rintro e w8 ⟨rfl,v,ht8⟩;have hs8:gA (·=l.heap.size) W w8:=(gA.refl _ _).drew.trans' ht8))
      all_goals(go_wp2_with fail;go_meet)
      all_goals exact⟨by rw[U.out],fun h=>by rw[U.out]at h;exact v h,HBT.out _ hs8⟩
     ·have hb':Op.bytesLess D.toList T.name.toList=false:=by simpa using hb
      have U:Hid (xM c.w d f k=false):=by show _=_;rw[HAT.out,G,uH,hb'];rfl
      clear G hb;go_quiet (fail)
      go_wp2_with fail;go_meet;exact⟨by rw[U.out];rfl,fun h=>absurd h (by rw[U.out];simp),below_drewN u.out _⟩
    ·have hd':decide (0<k)=false:=by simp;omega
     have hnk:¬0<k:=by omega
     have y:=HPZ.out (by omega);have HLD:=bA (P.out y);have U:Hid (xM c.w d f k=kP c.w d T):=by show _=_;rw[HAT.out,y,Nc]
     clear y;refine sE 17 (by kernel_rfl) (by kernel_rfl) ?_;simp only[Nd,Ue,Od,Vc];have hnel:Nonempty Unit:=⟨()⟩
     repeat (go_big_quiet_step (fail))
     refine wpQuiet_nil ?_;go_wp2_with(first|(go_at_call 139;refine(HLD.out _ ((Below.refl _ _).drew)).mono ?_;rintro e w8 ⟨rfl,v,ht8⟩));go_meet;exact⟨by rw[U.out],fun h=>by rw[U.out]at h;exact v h,HBT.out _ ((gA.refl _ _).drew.trans' ht8)⟩
   obtain⟨rfl,v,hb8⟩:=hcut;rename World=>w8;have HB8:Hid _:=hb8;by_cases f4:xM c.w d f k=false
   ·have HF4:Hid _:=HFAIL.out f4;rw[f4];clear f4 v hb8;go_wp2;go_ret2;exact Ba ⟨HF4.out,rfl,pA O.out HB8.out⟩
   ·have L:xM c.w d f k=true:=by simpa using f4
    have HF4:Hid (vH (xM c.w d f) (k+1)=true):=by show _=_;rw[lJ,HOK.out,L];rfl
    have HL8:Hid (yD w8 (l.heap.size<=·) (l.heap.size+1) l.heap.size c d (f.take (k+1)) M):=v L;rw[L];clear f4 L v hb8;go_wp2;exact⟨⟨k+1,by omega,by go_num,HF4.out,HL8.out,HB8.out⟩,by simp[intOf];omega⟩
  ·have ek:k=f.length:=by omega
   have HEND:Hid (iB c d f=true):=by show _=_;rw[S.out];have:=HOK.out;rw[ek]at this;exact this
   have HLE:Hid (yD wr (l.heap.size<=·) (l.heap.size+1) l.heap.size c d f M):=by have:=z.out;rw[ek,Qb]at this;exact this
   have hz:=O.out.size;go_wp2;go_ret2;exact Ea ⟨HEND.out,_,_,rfl,by omega,HLE.out.re (fun g _ Y=>⟨rfl,Ma hz Y⟩),pA O.out m.out⟩
end
