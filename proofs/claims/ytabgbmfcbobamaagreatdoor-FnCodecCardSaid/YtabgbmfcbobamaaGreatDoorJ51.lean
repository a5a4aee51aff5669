import Derived.Test.YtabgbmfcbobamaaGreatDoorJ47
import Derived.Test.YtabgbmfcbobamaaGreatDoorJ48
import Derived.Test.YtabgbmfcbobamaaGreatDoorJ49
import Derived.Test.YtabgbmfcbobamaaGreatDoorJ46
import Derived.Test.YtabgbmfcbobamaaGreatDoorJ42
set_option maxRecDepth 100000
set_option maxHeartbeats 8000000
namespace Go.Proofs.YtabgbmfcbobamaaGreatDoor
open Go.RowKit Tryz
section
open Go.Maps
attribute [local go_sem] rG sH mN eA.drewI dM.drewI dM.new dM.alloc dM.alloc2
theorem aEf (c:vB) (a b:Option Addr) (X Q:Nat) (N:yC) (s:ByteArray) (w:World) (h:tO w a b N) (hs:s.size<=1048576) (hm:¬et c N s [1,2,3,4,5,6]):
 Calls prog 37 #[iD c,.agg (iB a X b Q N),.string s] w fun e O=>cz (bM c N s).1 (.string (bM c N s).2) w e O:=by
 have f:=h.bulk;have Z:=bA (fun W (hW:Below w.heap.size w W)=>fK a b X Q N W (h.files.later hW) h.fit.len (h.tens.later hW) (by omega) (qR (by omega)));have z:=bA (fun W=>kH c W);have F:=bA (fun W b Q (hT:oB W b N.ts)=>eE c N.now b Q N.ts W hT (xR (show N.ts.length+uA N.ts<=1100000 by omega)).2.1 (by omega));have G:=bA (fun W=>dP s W hs);have hV:jE c=false/\bM c N s=(N,fA 1 4)\/jE c=true/\(N.up=false/\bM c N s=(N,fA 1 4)\/N.up=true/\(gB c N.now N.ts=false/\bM c N s=(N,fA 1 4)\/gB c N.now N.ts=true/\((nE s).2=false/\bM c N s=(N,fA 1 1)\/(nE s).2=true/\bM c N s=iV c N (nE s).1))):=by
  unfold bM;have hsc:jE c=false->gB c N.now N.ts=false:=fun h=>by unfold gB;rw[h];rfl
  cases h0:jE c
  ·exact Ca ⟨rfl,Qa (Ja (hsc h0))⟩
  refine Ja ⟨rfl,?_⟩;cases h1:N.up
  ·exact Ca ⟨rfl,Qa (Ca rfl)⟩
  refine Ja ⟨rfl,?_⟩;cases h2:gB c N.now N.ts
  ·exact Ca ⟨rfl,Qa (Ja rfl)⟩
  refine Ja ⟨rfl,?_⟩;rw[Oa (by simp)];cases h3:(nE s).2
  ·exact Ca ⟨rfl,Qa rfl⟩
  ·exact Ja ⟨rfl,Oa (by simp)⟩
 have hk6:(nE s).2=true->(1<=(nE s).1.kind/\(nE s).1.kind<=6):=fun h=>(AP h).1.1;have HM:=bA (show ¬(jE c=true/\N.up=true/\gB c N.now N.ts=true/\(nE s).2=true) from fun hh=>hm ⟨hh.1,hh.2.1,hh.2.2.1,hh.2.2.2,by have:=hk6 hh.2.2.2;simp only[Ab,Kd,Hf];omega⟩);clear hm hk6;have HI:=bA (fun W a b (h1:qA W a N.d.fs) (h2:oB W b N.ts)=>(⟨h1,h.fit,h2,h.bulk,h.rng,h.lsn,h.now⟩:tO W a b N));have S:=bA (fun hk=>AP (s:=s) hk);clear h f;unfold tK at G;generalize bM c N s=V at *;generalize nE s=D at *;obtain⟨D,dk⟩:=D;dsimp only at *;unfold iD at *;have fz:=xO;have M:=bA (NP.new (w:=w) (c:=c) (cs:=iB a X b Q N));have rN:=yE a X b Q N 82;have fN:=lE a X b Q N;go_enter func37,ntmps37;go_upto_region 1 with fail;generalize (((w.alloc (.cells #[.int .i64 c.w,.int .i64 c.tl,.int .i64 c.ml,.int .i64 c.sh,.int .i64 c.ha,.int .i64 c.sg] 33)).alloc (.cells (iB a X b Q N) 82)).alloc (.cells (iB none 0 none 0 lJ) 82))=W0 at *;obtain⟨i,j,k,l,m,n,o,p,q,r,t,u,v,x,y⟩:=M.out.cells rfl;go_wp2_with fail;refine(Z.out _ M.out.B).mono ?_;rintro e w1 ⟨H,K,J,L,rfl,hF,hT,f⟩;have P:=bA (M.out.later f);clear i j k l m n o p q r t u v x y;obtain⟨i,j,k,l,m,n,o,p,q,r,t,u,v,x,y⟩:=P.out.cells rfl;clear f M Z rN fN;go_upto_region 2 with fail;refine DA (C:=fun W=>Code.wp prog _ _ _ W) P.out.N ?_;intro w2 N2 T2;have I:=bA (HI.out w2 H J (hF.files.store P.out.N (mD _ _ _ _ _) T2) (hT.tens.store P.out.N (mD _ _ _ _ _) T2));replace P:=bA (P.out.put N2 T2);clear i j k l m n o p q r t u v x y hF hT N2 T2 HI;obtain⟨i,j,k,l,m,n,o,p,q,r,t,u,v,x,y⟩:=P.out.cells rfl;have rN:=yE H K J L N 82;have fN:=lE H K J L N;rcases hV with⟨Y,rfl⟩|⟨Y,⟨v1,rfl⟩|⟨v1,⟨v2,rfl⟩|⟨v2,⟨v3,rfl⟩|⟨v3,E⟩⟩⟩⟩
 rotate_left 4
 ·exact absurd ⟨Y,v1,v2,v3⟩ HM.out
 ·rw[Y]at z;clear F G S;go_wp2_with fail;refine(z.out _).mono ?_;rintro e U ⟨rfl,f⟩;replace P:=bA (P.out.later f);replace I:=bA (I.out.later f);clear f i j k l m n o p q r t u v x y;obtain⟨i,j,k,l,m,n,o,p,q,r,t,u,v,x,y⟩:=P.out.cells rfl;go_wp2;have A:=bA (P.out.held (iB H K J L N));go_region_held3 (fun O=>eA O (w.heap.size+1) (iB H K J L N) 82)
   (first|with_reducible exact(A.out _ g).1|with_reducible exact(A.out _ ((Below.refl _ _).drew)).1|exact(A.out _ g).2)
   (first|(go_at_call 79;refine(aD _ _ (by omega) (by omega)).mono ?_;rintro e T ⟨rfl,f⟩;have g:Below U.heap.size U T:=(by with_reducible exact nA ((Below.refl _ _).drew) f);have bx:=(P.out.later g).R.box rfl))
  go_wp2;exact wG rfl rfl rfl rfl (P.out.later g) (I.out.later g)
 ·rw[v1]at rN fN;rw[Y]at z;clear F G S;go_wp2_with fail;refine(z.out _).mono ?_;rintro e U ⟨rfl,f⟩;replace P:=bA (P.out.later f);replace I:=bA (I.out.later f);clear f i j k l m n o p q r t u v x y;obtain⟨i,j,k,l,m,n,o,p,q,r,t,u,v,x,y⟩:=P.out.cells rfl;go_wp2;have A:=bA (P.out.held (iB H K J L N));go_region_held3 (fun O=>eA O (w.heap.size+1) (iB H K J L N) 82)
   (first|with_reducible exact(A.out _ g).1|with_reducible exact(A.out _ ((Below.refl _ _).drew)).1|exact(A.out _ g).2)
   (first|(go_at_call 79;refine(aD _ _ (by omega) (by omega)).mono ?_;rintro e T ⟨rfl,f⟩;have g:Below U.heap.size U T:=(by with_reducible exact nA ((Below.refl _ _).drew) f);have bx:=(P.out.later g).R.box rfl))
  go_wp2;exact wG rfl rfl rfl rfl (P.out.later g) (I.out.later g)
 ·rw[v1]at rN fN;rw[Y]at z;rw[v2]at F;clear G S;go_wp2_with fail;refine(z.out _).mono ?_;rintro e U ⟨rfl,f⟩;replace P:=bA (P.out.later f);replace I:=bA (I.out.later f);clear f i j k l m n o p q r t u v x y;obtain⟨i,j,k,l,m,n,o,p,q,r,t,u,v,x,y⟩:=P.out.cells rfl;go_wp2_with fail;refine(F.out _ _ _ I.out.tens).mono ?_;rintro e w4 ⟨rfl,f⟩;replace P:=bA (P.out.later f);replace I:=bA (I.out.later f);clear f i j k l m n o p q r t u v x y;obtain⟨i,j,k,l,m,n,o,p,q,r,t,u,v,x,y⟩:=P.out.cells rfl;go_wp2;have A:=bA (P.out.held (iB H K J L N));go_region_held3 (fun O=>eA O (w.heap.size+1) (iB H K J L N) 82)
   (first|with_reducible exact(A.out _ g).1|with_reducible exact(A.out _ ((Below.refl _ _).drew)).1|exact(A.out _ g).2)
   (first|(go_at_call 79;refine(aD _ _ (by omega) (by omega)).mono ?_;rintro e T ⟨rfl,f⟩;have g:Below w4.heap.size w4 T:=(by with_reducible exact nA ((Below.refl _ _).drew) f);have bx:=(P.out.later g).R.box rfl))
  go_wp2;exact wG rfl rfl rfl rfl (P.out.later g) (I.out.later g)
 ·rw[v1]at rN fN;rw[Y]at z;rw[v2]at F;obtain rfl:dk=false:=v3;go_wp2_with fail;refine(z.out _).mono ?_;rintro e U ⟨rfl,f⟩;replace P:=bA (P.out.later f);replace I:=bA (I.out.later f);clear f i j k l m n o p q r t u v x y;obtain⟨i,j,k,l,m,n,o,p,q,r,t,u,v,x,y⟩:=P.out.cells rfl;go_wp2_with fail;refine(F.out _ _ _ I.out.tens).mono ?_;rintro e w4 ⟨rfl,f⟩;replace P:=bA (P.out.later f);replace I:=bA (I.out.later f);clear f i j k l m n o p q r t u v x y;obtain⟨i,j,k,l,m,n,o,p,q,r,t,u,v,x,y⟩:=P.out.cells rfl;go_wp2_with fail;refine(G.out _).mono ?_;rintro e w5 ⟨av,cv,rfl,_,f⟩;replace P:=bA (P.out.later f);replace I:=bA (I.out.later f);clear f i j k l m n o p q r t u v x y;go_upto_region 5 with fail;refine jF (C:=fun W=>Code.wp prog _ _ _ W) ?_;intro w6 f _ hz;clear hz;replace P:=bA (P.out.later f);replace I:=bA (I.out.later f);clear f;obtain⟨i,j,k,l,m,n,o,p,q,r,t,u,v,x,y⟩:=P.out.cells rfl;go_wp2;have A:=bA (P.out.held (iB H K J L N));go_region_held3 (fun O=>eA O (w.heap.size+1) (iB H K J L N) 82)
   (first|with_reducible exact(A.out _ g).1|with_reducible exact(A.out _ ((Below.refl _ _).drew)).1|exact(A.out _ g).2)
   (first|(go_at_call 79;refine(aD _ _ (by omega) (by omega)).mono ?_;rintro e T ⟨rfl,f⟩;have g:Below w6.heap.size w6 T:=(by with_reducible exact nA ((Below.refl _ _).drew) f);have bx:=(P.out.later g).R.box rfl))
  go_wp2;exact wG rfl rfl rfl rfl (P.out.later g) (I.out.later g)
theorem bu (c:vB) (a b:Option Addr) (f g:Nat) (N:yC) (s:ByteArray) (w:World) (h:tO w a b N) (i:s.size<=1048576):
 Calls prog 37 #[iD c,.agg (iB a f b g N),.string s] w fun e p=>cz (bM c N s).1 (.string (bM c N s).2) w e p:=by
 by_cases n:et c N s [1,2,3,4,5,6]
 ·obtain⟨j,k,l,m,o⟩:=n;simp only[Ab,Kd,Hf]at o;have d:(nE s).1.kind∈[(1:Int)]\/(nE s).1.kind∈[(2:Int),3,4]\/(nE s).1.kind∈[(5:Int),6]:=by
   simp only[Ab,Kd,Hf];omega
  rcases d with d|d|d
  ·exact aEc c a b f g N s w h i ⟨j,k,l,m,d⟩
  ·exact aEd c a b f g N s w h i ⟨j,k,l,m,d⟩
  ·exact aEe c a b f g N s w h i ⟨j,k,l,m,d⟩
 ·exact aEf c a b f g N s w h i n
end
section
open Go.Maps
attribute [local go_sem] rG sH mN eA.drewI dM.drewI dM.new dM.alloc dM.alloc2
structure zc where
 now:Int
 ts:List dA
 b:Option Addr
 cb:Nat
def sV (zs:List zc):List Value:=zs.flatMap fun z=>[.int .i64 z.now,.slice z.b z.ts.length z.cb]
def ro (c:vB) (w:World) (z:zc):Prop:=oB w z.b z.ts/\gB c z.now z.ts=true/\xD z.ts<=600000
def ZR (v:Value):Prop:=∀s,v≠.string s
def YU (v:Value):Prop:=∃s,v=.string s
theorem aAx:lb ZR:=Ca fun s h=>h s rfl
theorem aEw:lb YU:=Ja fun n h=>by obtain⟨s,e⟩:=h;cases e
theorem aAd:(prog.info? 51).map (fun i=>(i.zero,i.size,i.bytes))=some (some (.agg #[.int .i64 0,.slice none 0 0]),2,32):=by kernel_rfl
theorem aAc:(prog.info? 9).map (fun i=>(i.zero,i.size,i.bytes))=some (some (.string ByteArray.empty),1,16):=by kernel_rfl
theorem oU {w:World} {B:Nat} {T m:TypeId} {sz:Nat} {v:Value} {n:Nat} {t:List Value} {g:Nat} {d:Array Value} (h:w.ownsRow B T sz v n t) (r:eA w g d m) (s:m≠T):v.ownBlock≠some g:=by
 intro e;rcases h.2 with⟨f,_⟩|⟨u,q,o,f,_,i,_⟩
 ·rw[f]at e;simp[Value.ownBlock]at e
 ·rw[f]at e;simp only[Value.ownBlock,Pa]at e;subst e;have p:=i.symm.trans r;simp only[Pa,Obj.cells.injEq]at p;exact s p.2.1.symm
theorem kl {w:World} {B r:Nat} {T f:TypeId} {sz o:Nat} {v q:Value} {n y:Nat} {z p:List Value} (h:w.ownsRow B T sz v n z) (u:w.ownsRow r f o q y p) (x:f≠T):∀g,q.ownBlock=some g->¬v.ownBlock=some g:=fun g e=>by
 rcases u.2 with⟨i,_⟩|⟨t,s,d,i,_,m,_⟩
 ·rw[i]at e;simp[Value.ownBlock]at e
 ·rw[i]at e;simp only[Value.ownBlock,Pa]at e;subst e;exact oU h (show eA w t d f from m) x
structure tX (c:vB) (w W:World) (Y k j:Nat) (N:yC) (a:Option Addr) (ca:Nat) (b:Option Addr) (cb:Nat) (l l':Value) (zs:List zc) (ss:List Value):Prop where
 C:eA W w.heap.size #[.int .i64 c.w,.int .i64 c.tl,.int .i64 c.ml,.int .i64 c.sh,.int .i64 c.ha,.int .i64 c.sg] 33
 D:eA W Y (iB a ca b cb N) 82
 S:CX ZR W w.heap.size 51 2 l (k+1) (sV zs)
 R:CX YU W w.heap.size 9 1 l' j ss
 F:qA W a N.d.fs
 T:oB W b N.ts
 G:∀z∈zs,ro c W z
 L:zs.length=k+1
 B:Below w.heap.size w W
 Y:w.heap.size<Y
section
variable {c:vB} {w W W':World} {Y k j:Nat} {N M:yC} {a b a2 b2:Option Addr} {ca cb ca2 cb2:Nat} {l l' l9:Value} {zs:List zc} {ss s9:List Value}
theorem tX.later (h:tX c w W Y k j N a ca b cb l l' zs ss) (d:Below W.heap.size W W'):tX c w W' Y k j N a ca b cb l l' zs ss:=
 ⟨h.C.later d,h.D.later d,h.S.later d,h.R.later d,h.F.later d,h.T.later d,fun z e=>⟨(h.G z e).1.later d,(h.G z e).2⟩,h.L,nA h.B d,h.Y⟩
theorem tX.han (h:tX c w W Y k j N a ca b cb l l' zs ss) {m:Nat} (d:WH c m N) (o:m<=600000):tO W a b N:=by
 obtain⟨n,f,g,_,p⟩:=oF d.st;have hw:=d.w;have e:=(MI (lsn:=N.lsn) d.st (by omega) d.lsn.1 d.lsn.2).2.2.2.1;have i:=d.lsn;exact⟨h.F,d.fit,h.T,by have:=(pQ N.ts).1;omega,e,⟨by omega,by omega⟩,⟨by omega,by omega⟩⟩
theorem tX.put (h:tX c w W Y k j N a ca b cb l l' zs ss) (o:eA W' Y (iB a2 ca2 b2 cb2 M) 82) (f:gA (·=Y) W W') (p:qA W a2 M.d.fs) (q:oB W b2 M.ts):tX c w W' Y k j M a2 ca2 b2 cb2 l l' zs ss:=
 have r:=h.Y
 ⟨f.blk h.C (by omega),o,h.S.turn f fun g m e=>oU h.S.1 h.D (by decide) (e ▸ m),h.R.turn f fun g m e=>oU h.R.1 h.D (by decide) (e ▸ m),p.store h.D (mD _ _ _ _ _) f,q.store h.D (mD _ _ _ _ _) f,
  fun z n=>⟨(h.G z n).1.store h.D (mD _ _ _ _ _) f,(h.G z n).2⟩,h.L,h.B.trans (f.below h.B.size fun i s e=>by omega),h.Y⟩
theorem tX.app (h:tX c w W Y k j N a ca b cb l l' zs ss) {z:zc} (g:ro c W z) (m:CX ZR W' w.heap.size 51 2 l9 (k+1+1) (sV zs++[.int .i64 z.now,.slice z.b z.ts.length z.cb])) (d:gA (fun i=>l.ownBlock=some i) W W'):tX c w W' Y (k+1) j N a ca b cb l9 l' (zs++[z]) ss:=
 ⟨d.blk h.C (oU h.S.1 h.C (by decide)),d.blk h.D (oU h.S.1 h.D (by decide)),by rw[show sV (zs++[z])=sV zs++[.int .i64 z.now,.slice z.b z.ts.length z.cb] by simp[sV]];exact m,h.R.turn d (kl h.S.1 h.R.1 (by decide)),h.F.keptP h.S.2.2 d aAx,h.T.keptP h.S.2.2 d aAx,
  fun y f=>by
   rcases Oc.1 f with f|f
   ·exact⟨(h.G y f).1.keptP h.S.2.2 d aAx,(h.G y f).2⟩
   ·rw[Tc.1 f];exact⟨g.1.keptP h.S.2.2 d aAx,g.2⟩,by rw[Za,h.L];rfl,h.B.trans (d.below h.B.size fun i n e=>by have:=(h.S.1.lt i e).1;omega),h.Y⟩
theorem tX.rep (h:tX c w W Y k j N a ca b cb l l' zs ss) (g:CX YU W' w.heap.size 9 1 l9 (j+1) s9) (d:gA (fun i=>l'.ownBlock=some i) W W'):tX c w W' Y k (j+1) N a ca b cb l l9 zs s9:=
 ⟨d.blk h.C (oU h.R.1 h.C (by decide)),d.blk h.D (oU h.R.1 h.D (by decide)),h.S.turn d (kl h.R.1 h.S.1 (by decide)),g,h.F.keptP h.R.2.2 d aEw,h.T.keptP h.R.2.2 d aEw,fun y f=>⟨(h.G y f).1.keptP h.R.2.2 d aEw,(h.G y f).2⟩,h.L,h.B.trans (d.below h.B.size fun i m e=>by have:=(h.R.1.lt i e).1;omega),h.Y⟩
end
theorem zo {X:Nat} {w W:World} {cs:Array Value} (h:Below w.heap.size w W) (d:w.heap.size<=X):Below w.heap.size w (W.setRow X cs):=h.trans ((fF W X cs).below h.size fun i f e=>by omega)
theorem VB {m u:World} {X:Nat} {h i:Option Addr} {e f:Nat} {g:yC} {q:ByteArray} (o:eA u X (iB none 0 none 0 lJ) 82) (p:m.heap.size<=X) (r:Below m.heap.size m u) (s:qA u h g.d.fs) (t:oB u i g.ts):∃n a2 ca2 b2 cb2,Value.pointer (some ⟨X,0,none⟩)=.pointer (some ⟨n,0,none⟩)/\Value.string q=.string q/\m.heap.size<=n/\eA (u.setRow X (iB h e i f g)) n (iB a2 ca2 b2 cb2 g) 82/\qA (u.setRow X (iB h e i f g)) a2 g.d.fs/\oB (u.setRow X (iB h e i f g)) b2 g.ts/\Below m.heap.size m (u.setRow X (iB h e i f g)):=
 ⟨X,h,e,i,f,rfl,rfl,p,o.row,s.store o (mD _ _ _ _ _) (fF _ _ _),t.store o (mD _ _ _ _ _) (fF _ _ _),zo r p⟩
def aDj (c:vB) (n:Nat) (w:World) (e:Ending) (f:World):Prop:=∃(g d:Nat) (u:Value) (zs:List zc),e=.returned (.tuple #[.slice (some ⟨g,0,none⟩) (n+1) d,u])/\zs.length=n+1/\f.ownsRow w.heap.size 51 2 (.slice (some ⟨g,0,none⟩) (n+1) d) (n+1) (sV zs)/\(∀z∈zs,ro c f z)/\Below w.heap.size w f
theorem ul (c:vB) (hc:jE c=true) (a1:Option Addr) (c1:Nat) (E:List QV) (lo hi:Nat) (w:World) (hq:RN dV w lo hi a1 E) (hl:E.length<=17):
 Calls prog 9 #[iD c,.slice a1 E.length c1] w fun e m=>aDj c E.length w e m:=by
 have HC:=bA hc;have HNO:=bA (fun W=>VJ c W hc);have HQ:=bA hq;clear hc hq;unfold iD at *;have fz:=xO;go_enter func9,ntmps9;go_upto_region 1 with fail;refine jF (C:=fun W=>Code.wp prog _ _ _ W) ?_;intro w0 hb0 CB hz0;clear hz0;obtain⟨x0,x1,x2,x3,x4,x5⟩:=CB.c6;go_wp2_with fail;refine(HNO.out _).mono ?_;rintro e w1 ⟨M,x,hN,a,ca,b,cb,rfl,X,Z,A⟩;have C1:=bA (CB.later A);have B1:=bA (nA hb0 A);have hlt1:=aA C1.out;have FT:=bA (Ud X Z);have HI:=bA hN;clear A hb0 CB x0 x1 x2 x3 x4 x5 HNO X Z hN w0;go_upto_region 2 with fail;refine JI (C:=fun W=>Code.wp prog _ _ _ W) ?_;intro w2 J NB;have C2:=bA (C1.out.later J);have B2:=bA (nA B1.out J);have F2:=bA (Ud (FT.out.1.later J) (FT.out.2.later J));have hYw:w.heap.size<w1.heap.size:=hlt1;clear C1 B1 FT hlt1 J;generalize w1.heap.size=Y at *;have n9:w2.cell? ⟨Y,9,none⟩=some (.int .i64 M.now):=NB.cell 9;have n10:w2.cell? ⟨Y,10,none⟩=some (.slice b M.ts.length cb):=NB.cell 10;have N2:=bA NB;clear NB;go_upto_region 3 with fail;refine jF (C:=fun W=>Code.wp prog _ _ _ W) ?_;intro w3 y SB hz3;clear hz3 n9 n10;have S3:=bA SB;have N3:=bA (N2.out.later y);have C3:=bA (C2.out.later y);have B3:=bA (nA B2.out y);have F3:=bA (Ud (F2.out.1.later y) (F2.out.2.later y));have hs2:=B2.out.size;clear y SB N2 C2 B2 F2;generalize w2.heap.size=G at *;clear w2;go_upto_region 4 with fail;refine jF (C:=fun W=>Code.wp prog _ _ _ W) ?_;intro w4 n RB hz4;clear hz4;have R4:Hid (tX c w w4 Y 0 0 M a ca b cb (.slice (some ⟨G,0,none⟩) 1 1) (.slice (some ⟨w3.heap.size,0,none⟩) 0 0) [⟨M.now,M.ts,b,cb⟩] []):=by
  have hSB:=S3.out.later n;refine⟨C3.out.later n,N3.out.later n,⟨⟨rfl,.inr ⟨G,1,_,rfl,hs2,hSB,Ka _,by simp[maxLen],rfl,rfl⟩⟩,by simp[Value.ownBlock],fun g j u hg hu=>?_⟩,⟨⟨rfl,.inr ⟨w3.heap.size,0,_,rfl,B3.out.size,RB,Ka _,by simp[maxLen],rfl,rfl⟩⟩,by simp[Value.ownBlock],fun g j u hg hu=>?_⟩,F3.out.1.later n,F3.out.2.later n,fun z hz=>?_,rfl,nA B3.out n,hYw⟩
  ·simp only[Value.ownBlock,Pa]at hg;subst hg;rw[hSB.cell]at hu;match j with
   |0|1=>simp at hu;subst hu;intro s e;cases e
   |j+2=>simp at hu
  ·simp only[Value.ownBlock,Pa]at hg;subst hg;rw[RB.cell]at hu;simp at hu
  ·rw[Tc.1 hz];exact⟨F3.out.2.later n,HI.out.st,Ra HI.out.w (by omega)⟩
 clear n RB C3 N3 S3 B3 F3 hs2 hYw;generalize w3.heap.size=G2 at *;clear w3;go_wp2;go_loopw [8,9,11,12,13,26] (fun l l' _ _ _ i wr=>∃(k:Nat) (N:yC) (a:Option Addr) (ca:Nat) (b:Option Addr) (cb:Nat) (zs:List zc) (ss:List Value) (g I g' r:Nat),k<=E.length/\i=.int .i64 (k:Nat)/\l=.slice (some ⟨g,0,none⟩) (k+1) I/\l'=.slice (some ⟨g',0,none⟩) k r/\Hid (tX c w wr Y k k N a ca b cb l l' zs ss)/\Hid (WH c (33000*k) N)) (fun _ _ _ _ _ i _=>E.length-(intOf i).toNat)
 case atStart=>exact⟨0,M,a,ca,b,cb,_,_,G,1,G2,0,La _,rfl,rfl,rfl,R4.out,HI.out⟩
 case round=>
  clear R4 HI;obtain⟨k,N,a,ca,b,cb,zs,ss,g,I,g',r,hk,rfl,rfl,rfl,R,HI⟩:=hrel;by_cases hlt:k<E.length
  ·have hlt':(k:Int)<(E.length:Nat):=by omega
   obtain⟨g1,rfl,hg1,f,o⟩:=(HQ.out.later R.out.B).at hlt;have x0:=f 0 (by decide);have x1:=f 1 (by decide);have x2:=f 2 (by decide);have x3:=f 3 (by decide);have x4:=f 4 (by decide);simp only[dV,Cc,Ia,Bf]at x0 x1 x2 x3 x4;have HP:=bA (QV.said o);obtain⟨hp1,hp2,hp3⟩:=QV.small o;clear f o;generalize E[k]=q at *;go_upto_region 7 with fail;refine jF (C:=fun W=>Code.wp prog _ _ _ W) ?_;intro P hb5 QB hz5;clear hz5 x0 x1 x2 x3 x4 hg1;obtain⟨hsm,hok,hxs,hrb,hrn,hrz,hbk,hnm,hbt,hdr⟩:=HP.out;have hql:q.req.smps.length=q.ys.length:=Rb ..;have H:=bA (fun W (hW:Below wr.heap.size wr W)=>oW q.req q.a q.c W (hsm.later hW) (by omega) hnm hbt);rw[hql]at H;have Q:=bA (fun W (hW:Below wr.heap.size wr W)=>bu c a b ca cb N (aG q.req) W ((R.out.later hW).han HI.out (by omega)) (by omega));have U:=bA (aAa HC.out HI.out (by omega) hdr (by omega) hp3 hp1 hp2);unfold cz iD at Q;generalize bM c N (aG q.req)=V at *;obtain⟨O,rp⟩:=V;dsimp only at Q U;replace H:Hid (∀W,Below wr.heap.size wr W->Calls prog 11 #[.agg #[.int .i64 q.kind,.string q.n9,.string q.metric,.int .i64 q.num,.slice q.a q.ys.length q.c]] W fun e m=>e=.returned (.string (aG q.req))/\Below W.heap.size W m):=H;clear hsm hok hxs hrb hrn hrz hbk hnm hbt hdr hql HP;generalize aG q.req=tx at *;have R5:=bA (R.out.later hb5);have F:=bA hb5;have t:=bA (fun m (h:Below P.heap.size P m)=>(show(eA m Y (iB a ca b cb N) 82)/\(m.cell? ⟨w.heap.size,0,none⟩=some (.int .i64 c.w)/\m.cell? ⟨w.heap.size,1,none⟩=some (.int .i64 c.tl)/\m.cell? ⟨w.heap.size,2,none⟩=some (.int .i64 c.ml)/\m.cell? ⟨w.heap.size,3,none⟩=some (.int .i64 c.sh)/\m.cell? ⟨w.heap.size,4,none⟩=some (.int .i64 c.ha)/\m.cell? ⟨w.heap.size,5,none⟩=some (.int .i64 c.sg))/\(m.cell? ⟨wr.heap.size,0,none⟩=some (.int .i64 q.kind)/\m.cell? ⟨wr.heap.size,1,none⟩=some (.string q.n9)/\m.cell? ⟨wr.heap.size,2,none⟩=some (.string q.metric)/\m.cell? ⟨wr.heap.size,3,none⟩=some (.int .i64 q.num)/\m.cell? ⟨wr.heap.size,4,none⟩=some (.slice q.a q.ys.length q.c)) from⟨R5.out.D.later h,(R5.out.C.later h).c6,(QB.later h).c5⟩));obtain⟨k0,⟨x0,x1,x2,x3,x4,x5⟩,q0,q1,q2,q3,q4⟩:=t.out P (Below.refl _ _);have rN:=yE a ca b cb N 82;have fN:=lE a ca b cb N;go_cut [12,13] (fun p s wx=>∃X5 a' ca' b' cb',p=.pointer (some ⟨X5,0,none⟩)/\s=.string rp/\P.heap.size<=X5/\eA wx X5 (iB a' ca' b' cb' O) 82/\qA wx a' O.d.fs/\oB wx b' O.ts/\Below P.heap.size P wx)
   case first=>as_aux_lemma=>
    go_region_held3 (fun m=>(eA m Y (iB a ca b cb N) 82)/\(m.cell? ⟨w.heap.size,0,none⟩=some (.int .i64 c.w)/\m.cell? ⟨w.heap.size,1,none⟩=some (.int .i64 c.tl)/\m.cell? ⟨w.heap.size,2,none⟩=some (.int .i64 c.ml)/\m.cell? ⟨w.heap.size,3,none⟩=some (.int .i64 c.sh)/\m.cell? ⟨w.heap.size,4,none⟩=some (.int .i64 c.ha)/\m.cell? ⟨w.heap.size,5,none⟩=some (.int .i64 c.sg))/\(m.cell? ⟨wr.heap.size,0,none⟩=some (.int .i64 q.kind)/\m.cell? ⟨wr.heap.size,1,none⟩=some (.string q.n9)/\m.cell? ⟨wr.heap.size,2,none⟩=some (.string q.metric)/\m.cell? ⟨wr.heap.size,3,none⟩=some (.int .i64 q.num)/\m.cell? ⟨wr.heap.size,4,none⟩=some (.slice q.a q.ys.length q.c)))
     (first|with_reducible exact t.out _ ((Below.refl _ _).drew)|with_reducible exact t.out _ ((cA _ _).drew)|with_reducible exact t.out _ r1|with_reducible exact t.out _ (nA r1 (cA _ _))|with_reducible exact t.out _ K|with_reducible exact t.out _ (nA K (cA _ _))|with_reducible exact t.out _ (zo K (Ka _))|with_reducible exact t.out _ (zo K r1.size)|with_reducible exact t.out _ (zo (nA K (cA _ _)) K.size))
     (first
     |(go_at_call 11;refine(H.out _ (by first|with_reducible exact nA F.out ((Below.refl _ _).drew)|with_reducible exact nA F.out ((cA _ _).drew))).mono ?_;rintro e u1 ⟨rfl,A⟩;have r1:Below P.heap.size P u1:=(by first|with_reducible exact nA ((Below.refl _ _).drew) A|with_reducible exact nA ((cA _ _).drew) A);have k1:=t.out _ r1;(first|(have hz:=bR A)|skip))
     |(go_at_call 37;refine(Q.out _ (by first|with_reducible exact nA F.out r1|with_reducible exact nA F.out (nA r1 (cA _ _)))).mono ?_;rintro e u2 ⟨a',ca',b',cb',rfl,X,Z,A⟩;have K:Below P.heap.size P u2:=(by first|with_reducible exact nA r1 A|with_reducible exact nA (nA r1 (cA _ _)) A);have k2:=t.out _ K;(first|(have hz:=hz.later A)|(have hz:eA _ u1.heap.size _ _:=uO A)|skip);(try (have bx:=hz.box rfl))))
    all_goals(go_wp2_with fail;go_meet)
    ·exact VB (eA.new u2 _ _) K.size (nA K (cA _ _)) (X.later (cA _ _)) (Z.later (cA _ _))
    ·exact VB hz r1.size K X Z
    ·exact VB hz (Ka _) K X Z
   obtain⟨X5,a2,ca2,b2,cb2,rfl,rfl,hX5,XB,X,Z,hb6⟩:=hcut;rename World=>w6;have R6:=bA (R5.out.later hb6);have F6:=bA (Ud X Z);have bx:=R6.out.D.box rfl;have rM:=yE a2 ca2 b2 cb2 O 82;have fM:=lE a2 ca2 b2 cb2 O;clear X Z hb6 R5 t H Q F hb5 QB k0 x0 x1 x2 x3 x4 x5 q0 q1 q2 q3 q4 rN fN R;go_upto_region 9 with fail;refine DA (C:=fun W=>Code.wp prog _ _ _ W) R6.out.D ?_;intro w7 D7 T7;have R7:=bA (R6.out.put D7 T7 F6.out.1 F6.out.2);have n9:w7.cell? ⟨Y,9,none⟩=some (.int .i64 O.now):=D7.cell 9;have n10:w7.cell? ⟨Y,10,none⟩=some (.slice b2 O.ts.length cb2):=D7.cell 10;have hsz:=R7.out.B.size;clear D7 T7 R6 F6 XB bx rM fM;go_upto_region 10 with(at_builtin;refine kw rfl _ _ rfl underlying38 aAd rfl (by omega) (by omega) (v:=.slice (some ⟨g,0,none⟩) (k+1) I) rfl R7.out.S rfl (by simp) rfl (by simp[Value.oneCell']) (by omega) hsz (by simp[ZR]) (by simp[ZR,Value.cells]) ?_;intro g8 c8 w8 HO HT)
   have R8:=bA (R7.out.app (z:=⟨O.now,O.ts,b2,cb2⟩) ⟨R7.out.T,U.out.st,Ra U.out.w (by omega)⟩ HO.out HT.out);have hs8:=R8.out.B.size;clear HO HT n9 n10 hsz R7;go_wp2_with(at_builtin;refine kw rfl _ _ rfl underlying39 aAc rfl (by omega) (by omega) (v:=.slice (some ⟨g',0,none⟩) k r) rfl R8.out.R rfl (by simp) rfl (by simp[Value.oneCell']) (by omega) hs8 (by simp[YU]) (by simp[YU,Value.cells]) ?_;intro g9 c9 w9 HO HT);exact⟨⟨k+1,O,a2,ca2,b2,cb2,_,_,g8,c8,g9,c9,by omega,by go_num,rfl,rfl,R8.out.rep HO.out HT.out,U.out⟩,by simp[intOf];omega⟩
  ·obtain rfl:k=E.length:=by omega
   go_wp2;refine bodyPost_ret (v:=.tuple #[.slice (some ⟨g,0,none⟩) (E.length+1) I,.slice (some ⟨g',0,none⟩) E.length r]) (by simp[results,results9,go_sem]) rfl ?_;exact⟨g,I,_,zs,rfl,R.out.L,R.out.S.1,R.out.G,R.out.B⟩
end
