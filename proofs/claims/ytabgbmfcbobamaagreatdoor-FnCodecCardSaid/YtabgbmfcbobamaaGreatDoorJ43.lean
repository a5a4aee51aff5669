import Derived.Test.YtabgbmfcbobamaaGreatDoorJ39
import Derived.Test.YtabgbmfcbobamaaGreatDoorJ38
set_option maxRecDepth 100000
set_option maxHeartbeats 4000000
namespace Go.Proofs.YtabgbmfcbobamaaGreatDoor
open Go.RowKit Tryz
section
open Go.Maps
attribute [local go_sem] rG sH mN eA.drewI dM.drewI dM.new dM.alloc dM.alloc2
theorem aD (n:Int) (w:World) (b : -9223372036854775808<=n) (c:n<=9223372036854775807):Calls prog 79 #[.int .i64 n] w fun e d=>e=.returned (.string (fA 1 n))/\Below w.heap.size w d:=by
 have H:=bA (fun W=>aC 1 n W (by omega) b c);go_enter func79,ntmps79;go_wp2_with fail;refine(H.out _).mono ?_;rintro e f ⟨rfl,a⟩;replace a:=bA a;go_wp2;go_ret;exact⟨rfl,a.out⟩
def gM (N:yC) (a:Int) (b:ByteArray):ByteArray:=if a=0 then b else if a=22\/a=23\/a=21\/a=62 then fA 1 2 else if N.up=false then fA 1 4 else fA 1 3
theorem aEt {N:yC} {code:Int} {reply:ByteArray}:(code==0)=true/\gM N code reply=reply\/(code==0)=false/\(((code==22)=true\/(code==22)=false/\((code==23)=true\/(code==23)=false/\((code==21)=true\/(code==21)=false/\(code==62)=true)))/\gM N code reply=fA 1 2\/(code==22)=false/\(code==23)=false/\(code==21)=false/\(code==62)=false/\(N.up=false/\gM N code reply=fA 1 4\/N.up=true/\gM N code reply=fA 1 3)):=by
 unfold gM;by_cases a:code=0
 ·exact Ca ⟨by simpa using a,Qa a⟩
 refine Ja ⟨by simpa using a,?_⟩;rw[Oa a];by_cases b:code=22\/code=23\/code=21\/code=62
 ·exact Ca ⟨by rcases b with h|h|h|h<;>simp[h],Qa b⟩
 ·refine Ja ⟨by simp;omega,by simp;omega,by simp;omega,by simp;omega,?_⟩;rw[Oa b];cases N.up
  ·exact Ca ⟨rfl,Qa rfl⟩
  ·exact Ja ⟨rfl,Oa (by simp)⟩
theorem aU (a b:Option Addr) (g i:Nat) (N:yC) (f:Int) (c:ByteArray) (w:World) (r:qA w a N.d.fs) (s:oB w b N.ts):
 Calls prog 84 #[.agg (iB a g b i N),.int .i64 f,.string c] w fun e j=>cz N (.string (gM N f c)) w e j:=by
 have l:=bA r;have n:=bA s;have hw:=aEt (N:=N) (code:=f) (reply:=c);clear r s;generalize gM N f c=V at *;have E:=xO;rcases hw with⟨v,rfl⟩|⟨v,⟨o|⟨o,p|⟨p,q|⟨q,x⟩⟩⟩,rfl⟩|⟨o,p,q,x,⟨t,rfl⟩|⟨t,rfl⟩⟩⟩
 all_goals
  have A:=yE a g b i N 82;have y:=lE a g b i N;(try rw[t]at A y);have X:=bA ((eA.new w (iB a g b i N) 82).alloc (.cells (iB none 0 none 0 lJ) 82));have R:=eA.new (w.alloc (.cells (iB a g b i N) 82)) (iB none 0 none 0 lJ) 82;rw[World.size_alloc]at R;replace R:=bA R;have B:=bA (nA (cA w (.cells (iB a g b i N) 82)) (cA _ (.cells (iB none 0 none 0 lJ) 82)));go_enter func84,ntmps84;go_upto_region 1 with fail;generalize (w.alloc (.cells (iB a g b i N) 82)).alloc (.cells (iB none 0 none 0 lJ) 82)=W at *;have F:=X.out;have G:=R.out.box rfl;have m:=bA (fun j (h:Below W.heap.size W j)=>X.out.later h);have u:=bA (fun j (h:Below W.heap.size W j)=>((fF j (w.heap.size+1) (iB a g b i N)).blk (X.out.later h) (by omega):eA _ w.heap.size _ _));go_wp2
 all_goals first
  |exact oR rfl rfl rfl rfl R.out (mD _ _ _ _ _) (by omega) B.out (l.out.later B.out) (n.out.later B.out)
  |skip
 all_goals
  go_region_held3 (fun j=>eA j w.heap.size (iB a g b i N) 82)
   (first|with_reducible exact m.out _ k|with_reducible exact m.out _ ((Below.refl _ _).drew)|exact u.out _ k)
   (first|(go_at_call 79;refine(aD _ _ (by omega) (by omega)).mono ?_;rintro e C ⟨rfl,z⟩;have k:Below W.heap.size W C:=(by with_reducible exact nA ((Below.refl _ _).drew) z);have D:=(R.out.later k).box rfl))
  replace B:=bA (nA B.out k);go_wp2;exact oR rfl rfl rfl rfl (R.out.later k) (mD _ _ _ _ _) (by omega) B.out (l.out.later B.out) (n.out.later B.out)
end
def nsn (h:ByteArray) (r:lC):List lC:=if h.toList.isEmpty=true then [] else [r]
def wrS (c:vB) (a:Int) (b:ByteArray) (S:List dA×ByteArray×List lC) (x:jD):List dA×ByteArray×List lC:=
 ((pM c a S.1 b x).2.1,S.2.1++fA 1 ((pM c a S.1 b x).1:Nat),S.2.2++nsn (pM c a S.1 b x).2.2 ⟨1,b,(pM c a S.1 b x).2.2,0⟩)
def sQ (c:vB) (a:Int) (b:ByteArray) (d:List dA) (e:List jD):List dA×ByteArray×List lC:=e.foldl (wrS c a b) (d,ByteArray.empty,[])
theorem cx {c:vB} {a:Int} {d:ByteArray} {e:List dA} (b:List jD) (k:Nat) (h:k<b.length):sQ c a d e (b.take (k+1))=wrS c a d (sQ c a d e (b.take k)) b[k]:=by
 rw[sQ,Ma h,Kf];rfl
theorem aAm (l:mA):fU l<=255:=by
 unfold fU dN SZ;repeat' split
 all_goals simp
theorem du (d:List mA):(pA d).2.1<=255:=by
 have a:∀(l:List mA) (i c j:Nat),kC l i=some (c,j)->c<=255:=by
  intro l;induction l with
  |nil=>intro i c j h;cases h
  |cons x r b=>
   intro i c j h;rw[kC]at h;split at h
   ·exact b _ _ _ h
   ·cases h
    exact aAm x
 unfold pA;split
 ·simp
 split
 ·rename_i h;exact a _ _ _ _ h
 split
 ·simp
 ·split<;>simp
theorem uz {c:vB} {a:Int} {b:List dA} (h:gB c a b=true) (d:ByteArray) (x:jD):gB c a (pM c a b d x).2.1=true/\(pM c a b d x).2.1.length+uA (pM c a b d x).2.1<=b.length+uA b+2+d.size+(tP x).size/\(pM c a b d x).2.2.size<=(tP x).size/\(pM c a b d x).1<=255:=by
 have j:(gG (pA x.labs).1).size<=(tP x).size:=by have:=DT (pA x.labs).1;have:=bZ x.labs;have:=DF (ls:=x.labs);have:=mM x;omega
 have k:ByteArray.empty.size=0:=rfl;have i:(pA x.labs).2.1<=255:=du _;have g:(iF c a b d (gG (pA x.labs).1)).2.2<=5:=by unfold iF;(repeat' split)<;>simp
 unfold pM;split
 ·exact⟨h,by dsimp only;omega,by dsimp only;omega,i⟩
 split
 ·exact⟨h,by dsimp only;omega,by dsimp only;omega,by simp⟩
 split
 ·rename_i f;have e:=MK h ⟨1,d,gG (pA x.labs).1,0⟩;rw[ip h]at f g |-
  exact⟨iq h f,by dsimp only[vF,Ee]at e |-;rw[Qa rfl]at e;dsimp only at e;omega,j,by omega⟩
 ·exact⟨h,by dsimp only;omega,by dsimp only;omega,by omega⟩
theorem yu {c:vB} {a:Int} {f:List dA} (h:gB c a f=true) (b:ByteArray) (d:List jD) (k:Nat) (n:k<=d.length):gB c a (sQ c a b f (d.take k)).1=true/\(sQ c a b f (d.take k)).1.length+uA (sQ c a b f (d.take k)).1<=f.length+uA f+(cD (d.take k)).size+k*(b.size+2)/\(sQ c a b f (d.take k)).2.1.size=k/\(sQ c a b f (d.take k)).2.2.length<=k/\pC (sQ c a b f (d.take k)).2.2<=(cD (d.take k)).size+k*b.size/\∀r∈(sQ c a b f (d.take k)).2.2,r.kind=1/\r.num=0:=by
 induction k with
 |zero=>exact⟨h,by simp[sQ,cD],rfl,Ka _,by simp[sQ,pC],fun r e=>by cases e⟩
 |succ k i=>
  have g:k<d.length:=n;obtain⟨j,q,l,s,t,m⟩:=i (by omega);clear i;rw[cx d k g,jZ d k g,Ga];generalize sQ c a b f (d.take k)=S at *;obtain⟨p,u,v,_⟩:=uz j b d[k];unfold wrS;generalize pM c a S.1 b d[k]=J at *;have o:(nsn J.2.2 ⟨1,b,J.2.2,0⟩).length<=1/\pC (nsn J.2.2 ⟨1,b,J.2.2,0⟩)<=b.size+J.2.2.size/\∀r∈nsn J.2.2 ⟨1,b,J.2.2,0⟩,r.kind=1/\r.num=0:=by
   unfold nsn;split
   ·exact⟨by simp,by simp[pC],fun r e=>by cases e⟩
   ·exact⟨by simp,by simp[pC],fun r e=>by rw[Tc.1 e];exact⟨rfl,rfl⟩⟩
  generalize nsn J.2.2 ⟨1,b,J.2.2,0⟩=Z at *;dsimp only;rw[Kg,Kg];refine⟨p,by omega,by rw[Ga,iA,l],by rw[Za];omega,by rw[jQ];omega,fun r e=>?_⟩;rcases Oc.1 e with e|e
  ·exact m r e
  ·exact o.2.2 r e
def iV (c:vB) (N:yC) (r:vI):yC×ByteArray:=
 if N.deg=true/\r.kind<=4 then(N,fA 1 3)
 else if (r.kind≠2/\r.kind≠4)/\yB r.n9=false then(N,fA 1 2)
 else if r.kind=1 then
  if (sQ c N.now r.n9 N.ts r.smps).2.2=[] then(N,fA 1 0++fA 2 (r.smps.length:Nat)++(sQ c N.now r.n9 N.ts r.smps).2.1)
  else((bJ c N (sQ c N.now r.n9 N.ts r.smps).2.2).1,gM (bJ c N (sQ c N.now r.n9 N.ts r.smps).2.2).1 (bJ c N (sQ c N.now r.n9 N.ts r.smps).2.2).2 (fA 1 0++fA 2 (r.smps.length:Nat)++(sQ c N.now r.n9 N.ts r.smps).2.1))
 else if r.kind=2 then
  if (rY c N.now N.ts r.num).2.2=false then(N,fA 1 2)
  else((bJ c N [⟨2,ByteArray.empty,ByteArray.empty,r.num⟩]).1,gM (bJ c N [⟨2,ByteArray.empty,ByteArray.empty,r.num⟩]).1 (bJ c N [⟨2,ByteArray.empty,ByteArray.empty,r.num⟩]).2 (fA 1 0))
 else if r.kind=3 then
  if (cP c N.now N.ts r.n9 r.metric r.num).2.2=false then(N,fA 1 2)
  else((bJ c N [⟨3,r.n9,r.metric,r.num⟩]).1,gM (bJ c N [⟨3,r.n9,r.metric,r.num⟩]).1 (bJ c N [⟨3,r.n9,r.metric,r.num⟩]).2 (fA 1 0))
 else if r.kind=4 then((SI c N).1,gM (SI c N).1 (SI c N).2 (fA 1 0))
 else if r.kind=5 then
  if (cF c N.now N.ts r.n9 r.metric).1<0 then(N,fA 1 2)
  else(N,fA 1 0++fA 8 (cF c N.now N.ts r.n9 r.metric).1++fA 8 (cF c N.now N.ts r.n9 r.metric).2)
 else(N,fA 1 0++fA 8 N.now++fA 4 ((tA N.ts r.n9).s9.length:Nat)++tC (tA N.ts r.n9).s9)
def bM (c:vB) (N:yC) (s:ByteArray):yC×ByteArray:=
 if N.up=false\/gB c N.now N.ts=false then(N,fA 1 4)
 else if (nE s).2=false then(N,fA 1 1)
 else iV c N (nE s).1
theorem AP {s:ByteArray} (h:(nE s).2=true):kO (nE s).1/\(uS (nE s).1).size<=60000/\AC (nE s).1.num:=by
 unfold nE at h |-
 split at h
 ·rename_i a;rw[Qa a];dsimp only;refine⟨?_,?_,?_⟩
  ·by_cases b:kO (QR s)
   ·exact b
   ·have e:=a.2.2;rw[IW b]at e;have:=a.1.1;rw[<-e]at this;exact absurd this (by decide)
  ·by_cases b:(uS (QR s)).size<=60000
   ·exact b
   ·have e:=a.2.2;rw[BT (by omega)]at e;have:=a.1.1;rw[<-e]at this;exact absurd this (by decide)
  ·show AC (bP s).1;rw[bP];split
   ·exact EO _
   ·exact⟨by simp only;omega,by simp only;omega⟩
 ·cases h
structure WH (c:vB) (m:Nat) (N:yC):Prop where
 fit:CU N.d.fs
 st:gB c N.now N.ts=true
 w:xD N.ts≤m
 lsn:0≤N.lsn∧N.lsn≤1000000000000000
section
variable {c:vB} {m k:Nat} {N:yC} {rs:List lC}
theorem WH.mono (h:WH c m N) (a:m<=k):WH c k N:=⟨h.fit,h.st,Ra h.w a,h.lsn⟩
theorem UM (i:jE c=true) (h:WH c m N) (o:rs.length<=500) (n:27*rs.length+pC rs<=k) (l:k<=65535):WH c (m+k) (bJ c N rs).1:=by
 have b:WH c (m+k) N:=h.mono (by omega);rcases aCx (N:=N) (rs:=rs) i with⟨_,e⟩|⟨_,⟨_,e⟩|⟨a,⟨_,e⟩|⟨f,⟨_,e⟩|⟨_,e⟩⟩⟩⟩
 ·rw[e];exact b
 ·rw[e];exact b
 ·rw[e];exact b
 ·rw[e];exact b
 ·rw[e];obtain⟨p,j⟩:=xi (rs:=rs) h.st (by omega);have d:lM c N.now N.ts rs=qL c N.now N.ts rs:=by
   unfold lM at a |-
   rw[Oa (by rw[h.st];decide),Oa (by omega)]at a |-
   by_cases g:(qL c N.now N.ts rs).2.2=true
   ·rw[Qa g]
   ·rw[Oa g]at a;cases a
  rw[d]at a |-
  have hw:=h.w;simp only[xA,Sa,Eb]at f;unfold fu;split
  ·exact⟨FH h.fit,j a,by show xD (qL c N.now N.ts rs).2.1<=_;omega,by show 0<=N.lsn+1/\N.lsn+1<=1000000000000000;omega⟩
  ·split
   ·exact b
   ·exact⟨FH h.fit,h.st,b.w,h.lsn⟩
theorem aDu (b:jE c=true) (h:WH c m N) (e:m<=1000000):WH c m (SI c N).1:=by
 have f:=(MI (lsn:=N.lsn) h.st (Ra h.w e) h.lsn.1 h.lsn.2).2.1;have a:=TF _ _ h.fit (OP (K:=N.d) (L:=N.l) (text:=xE N.lsn N.now N.ts) (by omega));unfold SI;rw[Oa (by rw[b];decide)];split
 ·exact h
 split
 ·exact h
 split
 ·exact h
 split
 ·exact h
 split
 ·exact⟨a,h.st,h.w,h.lsn⟩
 ·exact⟨a,h.st,h.w,h.lsn⟩
theorem aAa (b:jE c=true) (h:WH c m N) (i:m<=1000000) {s:ByteArray} {r:vI} (e:nE s=(r,true)) (o:(cD r.smps).size<=32700) (g:r.smps.length<=5) (j:r.n9.size<=16) (l:r.metric.size<=16):WH c (m+33000) (bM c N s).1:=by
 have a:WH c (m+33000) N:=h.mono (by omega);have n:ByteArray.empty.size=0:=rfl;unfold bM;rw[e];split
 ·exact a
 split
 ·exact a
 show WH c (m+33000) (iV c N r).1;unfold iV;split
 ·exact a
 split
 ·exact a
 split
 ·obtain⟨_,_,_,d,f,_⟩:=yu h.st r.n9 r.smps r.smps.length (Ka _);rw[Wb]at d f;have:=De g j;split
  ·exact a
  ·exact UM b h (by omega) (by omega) (by omega)
 split
 ·split
  ·exact a
  ·exact UM b h (by simp) (by simp only[List.length_singleton,pC];omega) (by omega)
 split
 ·split
  ·exact a
  ·exact UM b h (by simp) (by simp only[List.length_singleton,pC];omega) (by omega)
 split
 ·exact(aDu b h i).mono (by omega)
 split
 ·split
  ·exact a
  ·exact a
 ·exact a
end
def QV.req (q:QV):vI:=⟨q.kind,q.n9,q.metric,q.num,q.ys.map (·.x)⟩
theorem jp:∀{ls:List mA},uR ls->wB ls<=ls.length*323
 |[],_=>La _
 |l::r,h=>by
  have b:=h l (Pb ..);have c:=jp (ls:=r) fun x a=>h x (Cb _ a);simp only[wB,Jb];omega
theorem ko:∀{ys:List XV},(∀y∈ys,rn y.x.labs y.c)->(cD (ys.map (·.x))).size<=ys.length*6529
 |[],_=>La _
 |y::r,h=>by
  obtain⟨e,d,a⟩:=h y (Pb ..);have f:=ko (ys:=r) fun x b=>h x (Cb _ b);have g:=jp a;rw[Lb,cD,Ga,mM,Jb];omega
theorem RN.smps {w:World} {n d:Nat} {a:Option Addr} {b:List XV} (h:RN rU w n d a b):sE w a (b.map (·.x))/\(∀y∈b,rn y.x.labs y.c/\kz y.x.bits):=by
 rcases h with rfl|⟨g,rfl,o,p,m,h⟩
 ·exact⟨Ca rfl,fun y j=>by cases j⟩
 ·refine⟨Ja ⟨g,0,rfl,m,fun i d=>?_⟩,fun y j=>?_⟩
  ·have f:i<b.length:=by simpa using d
   obtain⟨k,l⟩:=h i f;have e:(b.map (·.x))[i]=b[i].x:=by simp
   rw[e];exact⟨b[i].a,b[i].c,by rw[Wa];exact k 0 (by show 0<2;omega),by rw[Wa];exact k 1 (by show 1<2;omega),l.1.labs,l.2.1.2.1⟩
  ·obtain⟨i,d,rfl⟩:=Ob j;exact(h i d).2.2
theorem QV.said {w:World} {A g:Nat} {q:QV} (h:dV.part w A g q):sE w q.a q.req.smps/\kO q.req/\(cD q.req.smps).size<=32645/\aG q.req=uS q.req/\(aG q.req).size≠0/\(aG q.req).size<=33000/\yF q.req<=33000/\AC q.num/\(∀i (g:i<q.req.smps.length),AC q.req.smps[i].bits)/\nE (aG q.req)=(q.req,true):=by
 obtain⟨v,u,G,E,F,p,b,c,d,f⟩:=h;obtain⟨B,n⟩:=v.smps;have z:(cD q.req.smps).size<=32645:=Ra (ko fun y p=>(n y p).1) (by omega);have m:q.req.smps.length=q.ys.length:=Rb ..;have o:∀i (g:i<q.req.smps.length),AC q.req.smps[i].bits:=fun i g=>by
  have e:q.req.smps[i]=(q.ys[i]'(m ▸ g)).x:=by simp[QV.req]
  rw[e];exact(n _ (Xa _)).2
 have r:kO q.req:=⟨u,b,c,d,fun e=>by show q.ys.map _=[];rw[f e];rfl,by show q.n9.size<=_;omega,by show q.metric.size<=_;omega,by omega,fun i g=>by
  have e:q.req.smps[i]=(q.ys[i]'(m ▸ g)).x:=by simp[QV.req]
  rw[e];obtain⟨⟨C,_,s⟩,_⟩:=n _ (Xa (m ▸ g));refine⟨by omega,fun j t=>?_⟩;have:=s _ (Xa t);exact⟨by omega,by omega⟩⟩
 have H:(uS q.req).size<=33000/\1<=(uS q.req).size:=by
  have I:(if xQ q.req.kind=true then oK q.req.n9 else ByteArray.empty).size<=17:=by
   split
   ·rw[mE];show 1+q.n9.size<=_;omega
   ·decide
  have J:(if q.req.kind=1 then fA 2 (q.req.smps.length:Nat)++cD q.req.smps else ByteArray.empty).size<=32647:=by
   split
   ·rw[Ga,iA];omega
   ·decide
  have K:(if uQ q.req.kind=true then nD q.req.metric else ByteArray.empty).size<=18:=by
   split
   ·rw[oD];show 2+q.metric.size<=_;omega
   ·decide
  have L:(if fR q.req.kind=true then fA 8 q.req.num else ByteArray.empty).size<=8:=by
   split
   ·rw[iA];omega
   ·decide
  rw[uS];simp only[Ga,iA];omega
 have e:=IX r (by omega);have k:(aG q.req).size≠0:=by rw[e];omega
 have l:AC q.num:=⟨by omega,by omega⟩
 refine⟨B,r,z,e,k,by rw[e];omega,?_,l,o,jf k rfl l o⟩;have:=iZ q.req.smps;have D:yF q.req=q.n9.size+q.metric.size+q.req.smps.length+eC q.req.smps:=rfl;omega
theorem QV.small {w:World} {b a:Nat} {q:QV} (h:dV.part w b a q):q.n9.size<=16/\q.metric.size<=16/\q.req.smps.length<=5:=⟨h.2.2.1,h.2.2.2.1,by show(q.ys.map _).length<=5;rw[Rb];exact h.2.2.2.2.2.1⟩
theorem ug {c:vB} (h:de c):jE c=true:=by
 obtain⟨a,b,d,e,f,g⟩:=h;simp only[jE,xA,Sa,Eb];omega
theorem aEh:(prog.info? 44).map (fun i=>(i.zero,i.size,i.bytes))=some (some (.agg #[.int .i64 0,.string ⟨#[]⟩,.string ⟨#[]⟩,.int .i64 0,.slice none 0 0]),5,72):=by kernel_rfl
theorem aEg:(prog.info? 3).map (fun i=>(i.zero,i.size,i.bytes))=some (some (.int .i64 0),1,8):=by kernel_rfl
theorem wI.made {α:Type} (K:oH α) (w:World) (b:Nat) (e:TypeId) (a:b<=w.heap.size):wI K (w.alloc (.cells #[] e)) b e (.slice (some ⟨w.heap.size,0,none⟩) 0 0) 0 []:=
 ⟨World.ownsRow_made w #[] 0 a (by simp[maxLen]) (by simp),rfl,fun y c=>by cases c⟩
theorem aBn {w:World} {b d:Nat} {e:TypeId} {m:Nat} {v:Value} {n:Nat} {f:List Value} (h:w.ownsRow b e m v n f) (l:d<=b):w.ownsRow d e m v n f:=by
 refine⟨h.1,?_⟩;rcases h.2 with h|⟨g,a,c,i,j,k⟩
 ·exact Ca h
 ·exact Ja ⟨g,a,c,i,Ra l j,k⟩
def aGx (w a:World) (e:Ending):Prop:=∃(c:vB) (b:List QV) (d:Option Addr) (h:Nat) (g:Value) (f:List Nat),e=.returned (.tuple #[iD c,.slice d b.length h,g])/\de c/\b.length<=17/\RN dV a w.heap.size a.heap.size d b/\a.ownsRow w.heap.size 3 1 g 6 (f.map fun k=>.int .i64 (k:Nat))/\(∀k∈f,k<90)/\Below w.heap.size w a
theorem SY (a:Option Addr) (n C:Nat) (w:World) (hn:n<=1048576) (hU:gO w w.heap.size w.heap.size a n):
 Calls prog 8 #[.slice a n C] w fun e w'=>aGx w w' e:=by
 have HU:Hid (gO w w.heap.size w.heap.size a n):=hU;clear hU;obtain⟨i0,hi0,hz0,hz1,hz2⟩:=info_parts aEh;obtain⟨j0,hj0,hy0,hy1,hy2⟩:=info_parts aEg;go_enter func8,ntmps8;go_wp2_with fail;have Y0:Hid (eA (w.alloc (.cells #[.int .i64 0,.int .i64 0,.int .i64 0,.int .i64 0,.int .i64 0,.int .i64 0] 33)) w.heap.size #[.int .i64 0,.int .i64 0,.int .i64 0,.int .i64 0,.int .i64 0,.int .i64 0] 33):=heap_alloc_new _ _;have B0:Hid (Below w.heap.size w (w.alloc (.cells #[.int .i64 0,.int .i64 0,.int .i64 0,.int .i64 0,.int .i64 0,.int .i64 0] 33))):=cA _ _;have a0:(w.alloc (.cells #[.int .i64 0,.int .i64 0,.int .i64 0,.int .i64 0,.int .i64 0,.int .i64 0] 33)).heap.size=w.heap.size+1:=by simp
 generalize w.alloc (.cells #[.int .i64 0,.int .i64 0,.int .i64 0,.int .i64 0,.int .i64 0,.int .i64 0] 33)=W0 at *;have U:Hid (kB (W0.alloc (.cells #[.slice a n C,.int .i64 0,.int .i64 0] 60)) (w.heap.size+1) (w.heap.size+2) 0):=by
  have L:=heap_alloc_new W0 (.cells #[.slice a n C,.int .i64 0,.int .i64 0] 60);rw[a0]at L;refine⟨a,n,C,0,0,L,Ka _,⟨by omega,by omega⟩,hn,?_,by omega,by simp;omega⟩;rcases HU.out with h|⟨b,o,e,G,hlt,h⟩
  ·exact Ca h
  ·exact Ja ⟨b,o,e,by omega,by omega,fun i hi=>by
    obtain⟨v,hv,hc⟩:=h i hi;exact⟨v,hv,by rw[World.cell?_of_block ((cA W0 _).block b (by omega)),World.cell?_of_block (B0.out.block b hlt)];exact hc⟩⟩
 refine(KC (w.heap.size+1) (w.heap.size+2) 0 _ U.out (by omega)).mono ?_;rintro e d ⟨c,k0,rfl,d0,D⟩;have hs1:w.heap.size+2<=d.heap.size:=by have:=D.size;simp at this;omega
 have H1:Hid (kB d (w.heap.size+1) (w.heap.size+2) 6/\Below w.heap.size w d):=⟨d0.mono (by omega),(nA B0.out (cA _ _)).trans (D.below (by omega) (by simp;omega))⟩
 have Y1:Hid (eA d w.heap.size #[.int .i64 0,.int .i64 0,.int .i64 0,.int .i64 0,.int .i64 0,.int .i64 0] 33):=(D.block _ (by simp;omega) (by omega)).trans (Y0.out.alloc _);have HDC:=bA k0;clear d0 D U HU k0 Y0 B0 a0 W0;unfold iD;go_wp2_with fail;have C0:Hid (eA (d.alloc (.cells #[.int .i64 c.w,.int .i64 c.tl,.int .i64 c.ml,.int .i64 c.sh,.int .i64 c.ha,.int .i64 c.sg] 33)) d.heap.size #[.int .i64 c.w,.int .i64 c.tl,.int .i64 c.ml,.int .i64 c.sh,.int .i64 c.ha,.int .i64 c.sg] 33):=heap_alloc_new _ _;have BC:Hid (Below d.heap.size d (d.alloc (.cells #[.int .i64 c.w,.int .i64 c.tl,.int .i64 c.ml,.int .i64 c.sh,.int .i64 c.ha,.int .i64 c.sg] 33))):=cA _ _;have b0:(d.alloc (.cells #[.int .i64 c.w,.int .i64 c.tl,.int .i64 c.ml,.int .i64 c.sh,.int .i64 c.ha,.int .i64 c.sg] 33)).heap.size=d.heap.size+1:=by simp
 generalize d.alloc (.cells #[.int .i64 c.w,.int .i64 c.tl,.int .i64 c.ml,.int .i64 c.sh,.int .i64 c.ha,.int .i64 c.sg] 33)=Wc at *;refine(cB (w.heap.size+1) (w.heap.size+2) 6 14 _ ((H1.out.1.later BC.out).later (cA _ _)) (by omega) (by omega) (by omega)).mono ?_;rintro e R ⟨B,hnn,rfl,e0,z⟩;have hs2:d.heap.size<R.heap.size:=by have:=z.size;simp at this;omega
 have H2:Hid (kB R (w.heap.size+1) (w.heap.size+2) 7/\Below w.heap.size w R):=⟨e0,(nA (nA H1.out.2 BC.out) (cA _ _)).trans (z.below (by omega) (by simp;omega))⟩
 have Y2:Hid (eA R w.heap.size #[.int .i64 0,.int .i64 0,.int .i64 0,.int .i64 0,.int .i64 0,.int .i64 0] 33):=(z.block _ (by simp;omega) (by omega)).trans ((Y1.out.later BC.out).alloc _);have C2:Hid (eA R d.heap.size #[.int .i64 c.w,.int .i64 c.tl,.int .i64 c.ml,.int .i64 c.sh,.int .i64 c.ha,.int .i64 c.sg] 33):=(z.block _ (by simp;omega) (by omega)).trans (C0.out.alloc _);have X:Hid (wI dV R (d.heap.size+1) 44 (.slice (some ⟨d.heap.size+1,0,none⟩) 0 0) 0 []):=bA (by have:=(wI.made dV Wc (d.heap.size+1) 44 (by omega)).but z (by omega);rw[b0]at this;exact this);clear e0 z H1 Y1 C0 BC b0 Wc;go_wp2;go_loopw [7,9] (fun l i wr=>∃(k:Nat) (H:List QV),k<=B+4/\i=.int .i64 (k:Nat)/\Hid (wI dV wr (d.heap.size+1) 44 l k H)/\Hid (kB wr (w.heap.size+1) (w.heap.size+2) (7+1200*k))/\Hid (eA wr w.heap.size #[.int .i64 0,.int .i64 0,.int .i64 0,.int .i64 0,.int .i64 0,.int .i64 0] 33)/\Hid (eA wr d.heap.size #[.int .i64 c.w,.int .i64 c.tl,.int .i64 c.ml,.int .i64 c.sh,.int .i64 c.ha,.int .i64 c.sg] 33)/\Hid (Below w.heap.size w wr)/\d.heap.size<wr.heap.size) (fun _ i _=>B+4-(intOf i).toNat)
 case atStart=>exact⟨0,[],La _,rfl,X.out,H2.out.1,Y2.out,C2.out,H2.out.2,by omega⟩
 case round=>
  clear X H2 Y2 C2;obtain⟨k,H,hk,rfl,M,U,HY,HX,HB,hsr⟩:=hrel;have p:∀q,u7.ownBlock=some q->d.heap.size+1<=q/\q<wr.heap.size:=fun q O=>M.out.lt q O;by_cases hlk:k<B+4
  ·have n0:(k:Int)<4+(B:Int):=by omega
   go_wp2_with fail;refine(XL (w.heap.size+1) (w.heap.size+2) (7+1200*k) wr U.out (by omega)).mono ?_;rintro e s ⟨q,rfl,p0,g0,E⟩;have hs3:wr.heap.size<=s.heap.size:=E.size;have T:Hid (kB s (w.heap.size+1) (w.heap.size+2) (7+1200*k+1200)/\dB (w.heap.size+1) wr s):=⟨g0,E⟩
   have HP3:Hid (dV.part s wr.heap.size s.heap.size q):=p0;have HO3:Hid (s.ownsRow (d.heap.size+1) 44 5 u7 k (dV.flat H)):=(M.out.but E (by omega)).1;clear p0 g0 E;unfold QV.val;have hcl:dV.cells q=[.int .i64 q.kind,.string q.n9,.string q.metric,.int .i64 q.num,.slice q.a q.ys.length q.c]:=rfl;clear hcl;obtain⟨V,hV⟩:∃V:List Value,V=[.int .i64 q.kind,.string q.n9,.string q.metric,.int .i64 q.num,.slice q.a q.ys.length q.c]:=⟨_,rfl⟩
   clear hV;go_wp2_with(at_builtin;refine wpList_append_lies _ rfl _ _ _ rfl (d.heap.size+1) 44 i0 _ 5 72 underlying34 hi0 hz0 hz1 hz2 rfl (by omega) u7 k (dV.flat H) rfl (by exact HO3.out.alloc _) ⟨s.heap.size,0,none⟩ 1 1 [.int .i64 q.kind,.string q.n9,.string q.metric,.int .i64 q.num,.slice q.a q.ys.length q.c] rfl rfl (by have:=World.news_of_block (cs:=#[.int .i64 q.kind,.string q.n9,.string q.metric,.int .i64 q.num,.slice q.a q.ys.length q.c]) (t:=44) (fr:=(0,0)) (heap_alloc_new s (.cells #[.int .i64 q.kind,.string q.n9,.string q.metric,.int .i64 q.num,.slice q.a q.ys.length q.c] 44));simpa using this) (by simp[Value.oneCell']) (by omega) (by simp[maxLen];omega) (by omega) (by simp;omega) (s.heap.size+1) (by simp) ?_;intro Y c9 S r j J o0);have hgg:(u7.ownBlock=some Y/\Y<wr.heap.size)\/s.heap.size<=Y:=by
    rcases J with h|h
    ·exact Ca ⟨h,(p _ h).2⟩
    ·exact Ja (by omega)
   have l0:∀g,g<s.heap.size->u7.ownBlock≠some g->S.heap[g]?=s.heap[g]?:=fun g K G=>by
    rw[(gA.grown j).block g (by simp;omega) G];exact(cA _ _).block g K
   have m:Below (d.heap.size+1) s S:=((Below.refl (d.heap.size+1) s).alloc (by omega) _).grown j (by simp;omega) (fun q O=>by have:=p q O;omega);have hR9:wI dV S (d.heap.size+1) 44 (.slice (some ⟨Y,0,none⟩) (k+1) c9) (k+1) (H++[q]):=wI.snoc (wr:=wr) (w4:=s) (w6:=S) (v:=u7) r M.out (by omega) (by have:=m.size;omega) (by omega)
    (fun g K hb G=>(l0 g (by omega) G).trans (T.out.2.block g K (by omega)))
    (fun g K hg4=>l0 g hg4 (fun e=>by have:=(p _ e).2;omega))
    HP3.out hgg
   exact⟨⟨k+1,H++[q],by omega,by go_num,hR9,(T.out.1.below (m.mono (by omega))).mono (by omega),(m.block _ (by omega)).trans ((T.out.2.block _ (by omega) (by omega)).trans HY.out),(m.block _ (by omega)).trans ((T.out.2.block _ (by omega) (by omega)).trans HX.out),(HB.out.trans (T.out.2.below (by omega) (by omega))).trans (m.mono (by omega)),by have:=m.size;omega⟩,by simp[intOf];omega⟩
  ·have N:k=B+4:=by omega
   have n0:¬((k:Int)<4+(B:Int)):=by omega
   obtain⟨ra,rc,rfl⟩:=M.out.row;subst N;have hql:H.length=B+4:=M.out.2.1;have HIN:Hid (RN dV wr (d.heap.size+1) wr.heap.size ra H):=M.out.out;clear M p;obtain⟨A,hwo⟩:∃A:World,A=wr:=⟨_,rfl⟩
   subst hwo;go_wp2;go_loopw [10,11] (fun l i wr=>∃(k:Nat) (Q:List Nat),k<=6/\i=.int .i64 (k:Nat)/\Hid (wr.ownsRow A.heap.size 3 1 l k (Q.map fun k=>.int .i64 (k:Nat)))/\Hid (kB wr (w.heap.size+1) (w.heap.size+2) (7+1200*(B+4)+k))/\Hid (dB (w.heap.size+1) A wr)/\Hid (∀x∈Q,x<90)) (fun _ i _=>6-(intOf i).toNat)
   case atStart=>exact⟨0,[],La _,rfl,World.ownsRow_made A #[] 0 (Ka _) (by simp[maxLen]) (by simp),U.out.later (cA _ _),dB.of (cA _ _),fun x P=>by cases P⟩
   case round=>
    obtain⟨k,Q,hk,rfl,HO,HC2,u,W⟩:=hrel;have p:∀q,u10.ownBlock=some q->A.heap.size<=q/\q<wr.heap.size:=fun q O=>HO.out.lt q O;have hsq:A.heap.size<=wr.heap.size:=u.out.size;by_cases hl6:k<6
    ·have m0:(k:Int)<6:=by omega
     go_wp2_with fail;refine(cB (w.heap.size+1) (w.heap.size+2) (7+1200*(B+4)+k) 90 wr HC2.out (by omega) (by omega) (by omega)).mono ?_;rintro e I ⟨v5,hv5,rfl,h0,F⟩;have hs5:wr.heap.size<=I.heap.size:=F.size;have H5:Hid (kB I (w.heap.size+1) (w.heap.size+2) (7+1200*(B+4)+(k+1))/\dB (w.heap.size+1) A I):=⟨h0,u.out.trans F⟩
     have HO5:Hid (I.ownsRow A.heap.size 3 1 u10 k (Q.map fun k=>.int .i64 (k:Nat))):=(gA.but F).row HO.out (fun g K e=>by have:=(p g K).1;omega);clear h0 F;go_wp2_with(at_builtin;refine wpList_append_lies _ rfl _ _ _ rfl A.heap.size 3 j0 _ 1 8 underlying35 hj0 hy0 hy1 hy2 rfl (by omega) u10 k (Q.map fun k=>.int .i64 (k:Nat)) rfl (by exact HO5.out.alloc _) ⟨I.heap.size,0,none⟩ 1 1 [.int .i64 (v5:Nat)] rfl rfl (by have:=World.news_of_block (cs:=#[.int .i64 (v5:Nat)]) (t:=3) (fr:=(0,0)) (heap_alloc_new I (.cells #[.int .i64 (v5:Nat)] 3));simpa using this) (by simp[Value.oneCell']) (by omega) (by simp[maxLen];omega) (by omega) (by simp;omega) (I.heap.size+1) (by simp) ?_;intro Y c9 S r j J o0);have m:Below A.heap.size I S:=((Below.refl A.heap.size I).alloc (by omega) _).grown j (by simp;omega) (fun q O=>by have:=p q O;omega);exact⟨⟨k+1,Q++[v5],by omega,by go_num,by rw[Vd];exact r,H5.out.1.below (m.mono (by omega)),H5.out.2.below_to m,fun x P=>by
      rcases Oc.1 P with P|P
      ·exact W.out x P
      ·rw[Tc]at P;omega⟩,by simp[intOf];omega⟩
    ·have N:k=6:=by omega
     have m0:¬((k:Int)<6):=by omega
     have y:Hid (eA wr d.heap.size #[.int .i64 c.w,.int .i64 c.tl,.int .i64 c.ml,.int .i64 c.sh,.int .i64 c.ha,.int .i64 c.sg] 33):=(u.out.block _ (by omega) (by omega)).trans HX.out;have f:Hid (eA wr w.heap.size #[.int .i64 0,.int .i64 0,.int .i64 0,.int .i64 0,.int .i64 0,.int .i64 0] 33):=(u.out.block _ (by omega) (by omega)).trans HY.out;have c0:=y.out.cell 0;have c1:=y.out.cell 1;have c2:=y.out.cell 2;have c3:=y.out.cell 3;have c4:=y.out.cell 4;have c5:=y.out.cell 5;have r0:=f.out.cell 0;have r1:=f.out.cell 1;have r2:=f.out.cell 2;have r3:=f.out.cell 3;have r4:=f.out.cell 4;have r5:=f.out.cell 5;have s0:=f.out.free 0;have s1:=f.out.free 1;have s2:=f.out.free 2;have s3:=f.out.free 3;have s4:=f.out.free 4;have s5:=f.out.free 5;subst N;go_wp2;refine bodyPost_ret (v:=.tuple #[.agg #[.int .i64 c.w,.int .i64 c.tl,.int .i64 c.ml,.int .i64 c.sh,.int .i64 c.ha,.int .i64 c.sg],.slice ra (B+4) rc,u10]) (by simp[results,results8,go_sem,r0,r1,r2,r3,r4,r5]) rfl ?_;have Z:gA (·=w.heap.size) wr ((((((wr.setCell ⟨w.heap.size,0,none⟩ (.int .i64 c.w)).setCell ⟨w.heap.size,1,none⟩ (.int .i64 c.tl)).setCell ⟨w.heap.size,2,none⟩ (.int .i64 c.ml)).setCell ⟨w.heap.size,3,none⟩ (.int .i64 c.sh)).setCell ⟨w.heap.size,4,none⟩ (.int .i64 c.ha)).setCell ⟨w.heap.size,5,none⟩ (.int .i64 c.sg)):=((((((gA.refl (·=w.heap.size) wr).setCell (Ca rfl) 0 _).setCell (Ca rfl) 1 _).setCell (Ca rfl) 2 _).setCell (Ca rfl) 3 _).setCell (Ca rfl) 4 _).setCell (Ca rfl) 5 _;have hBq:Below w.heap.size w wr:=HB.out.trans (u.out.below (by omega) (by omega));refine⟨c,H,ra,rc,u10,Q,by rw[hql];rfl,HDC.out,by omega,?_,aBn (Z.row HO.out (fun g K e=>by have:=(p g K).1;omega)) (by omega),W.out,hBq.trans (Z.below (by omega) (fun i hi e=>by omega))⟩;exact((HIN.out.keep hsq (fun g h1 h2 h3=>u.out.block g h3 (by omega))).keep Z.size (fun g h1 h2 h3=>Z.block g h3 (by omega))).wide (by omega) (by have:=Z.size;omega)
theorem SG (b c:Nat) (f g h:Value) (u:TypeId) (d:Value) (a:List PanicEntry) (w:World) (i:w.cell? ⟨b,0,none⟩=some f) (j:w.cell? ⟨b,1,none⟩=some g) (k:w.cell? ⟨c,0,none⟩=some h) (p:w.frozen? ⟨b,0,none⟩=false) (q:w.frozen? ⟨b,1,none⟩=false) (r:w.frozen? ⟨c,0,none⟩=false) (l:¬c=b):
 CallsD prog 30 #[.pointer (some ⟨b,0,none⟩),.pointer (some ⟨c,0,none⟩)] (.panicking ({ v:=.iface u d,recovered:=false}:: a)) w fun e n o=>
  e=.returned (.tuple #[])/\n=.panicking ({ v:=.iface u d,recovered:=true}:: a)/\o=((w.setCell ⟨b,0,none⟩ (.int .i64 0)).setCell ⟨b,1,none⟩ (.slice none 0 0)).setCell ⟨c,0,none⟩ (.bool false):=by
 refine callsD_of_wpS func30 rfl fun s cs m=>?_;apply wpS_seq;apply wpS_region;simp[wpOpsS,go_sem,recoverD,m,ntmps30,Exit.thenS];refine wpS_cond (t:=true) (by simp[Act.eval,Array.replicate]) ?_;simp only[Ee];apply wpS_region;simp[wpOpsS,go_sem,i,j,k,p,q,r,bodyPostS,results,results30]
theorem WU (p q:Value) (w:World):
 CallsD prog 30 #[p,q] .returning w fun e c d=>e=.returned (.tuple #[])/\c=.returning/\d=w:=by
 refine callsD_of_wpS func30 rfl fun a cs b=>?_;apply wpS_seq;apply wpS_region;simp[wpOpsS,go_sem,recoverD,b,ntmps30,Exit.thenS];refine wpS_cond (t:=false) (by simp[Act.eval,Array.replicate]) ?_;simp only[Pc,Se];refine wpS_of_wp (wp_skip ?_);cases a
 simp_all[bodyPostS,results,results30]
theorem QP (r:Rd):∀k i (h:i<(zH r k).1.length),(zH r k).1[i].n9.size<=r.rest.size/\(zH r k).1[i].text.size<=r.rest.size
 |0,i,h=>absurd h (by simp[zH,DY])
 |k+1,i,h=>by
  simp only[fX];rw[List.getElem_append];split
  ·rename_i d;exact QP r k i d
  ·simp only[List.getElem_singleton,az];have a:=Ra (kN 1 (zH r k).2) (LQ r k);have b:=yG 1 (zA 1 (zH r k).2).2;have c:=yG 2 (oA 1 (zA 1 (zH r k).2).2).2;exact⟨Ra b.1 a,Ra c.1 (Ra b.2 a)⟩
theorem sf (s:ByteArray) (c:s.size<=1000000000):rg (rK s).1:=by
 intro i h;have a:(JR s).2.rest.size<=1000000000:=by rw[JR,aV];exact Ra (kN 2 _) (Ra (kN 8 _) c)
 have b:=QP (JR s).2 (JR s).1 i h;exact⟨Ra b.1 a,Ra b.2 a⟩
def dd (s:ByteArray) (w:World) (e:Ending) (c:World):Prop:=
 ∃b a,e=.returned (.tuple #[.agg #[.int .i64 (uX s).1,.slice b (uX s).2.1.length a],.bool (uX s).2.2])/\dG c w.heap.size b (uX s).2.1/\Below w.heap.size w c
structure DB (w W:World) (l:Int) (v:Value):Prop where
 X:eA W w.heap.size #[.int .i64 l,v] 25
 Y:eA W (w.heap.size+1) #[.bool false] 4
 B:Below w.heap.size w W
theorem DB.turn {w W c:World} {S:Nat->Prop} {l:Int} {v:Value} (h:DB w W l v) (b:gA S W c) (a:∀j,S j->w.heap.size+1<j):DB w c l v:=⟨b.blk h.X fun e=>by have:=a _ e;omega,b.blk h.Y fun e=>by have:=a _ e;omega,h.B.trans (b.below h.B.size fun j d e=>by have:=a _ e;omega)⟩
theorem DB.new (w:World) (s:ByteArray):DB w (((w.alloc (.cells #[.int .i64 0,.slice none 0 0] 25)).alloc (.cells #[.bool false] 4)).alloc (.cells #[.string s,.bool false] 70)) 0 (.slice none 0 0)/\RT (((w.alloc (.cells #[.int .i64 0,.slice none 0 0] 25)).alloc (.cells #[.bool false] 4)).alloc (.cells #[.string s,.bool false] 70)) (w.heap.size+1+1) ⟨s,false⟩:=by
 have a:=(eA.new (w.alloc (.cells #[.int .i64 0,.slice none 0 0] 25)) #[.bool false] 4).alloc (.cells #[.string s,.bool false] 70);have b:=eA.new ((w.alloc (.cells #[.int .i64 0,.slice none 0 0] 25)).alloc (.cells #[.bool false] 4)) #[.string s,.bool false] 70;exact⟨⟨((eA.new _ _ _).alloc _).alloc _,by simpa using a,nA (nA (cA _ _) (cA _ _)) (cA _ _)⟩,⟨_,by simpa using b⟩⟩
theorem DB.set {w W:World} {l l':Int} {v v':Value} (h:DB w W l v):DB w ((W.setCell ⟨w.heap.size,0,none⟩ (.int .i64 l')).setCell ⟨w.heap.size,1,none⟩ v') l' v':=by
 have a:=((gA.refl (·=w.heap.size) W).setCell (Ca rfl) 0 (.int .i64 l')).setCell (Ca rfl) 1 v';exact⟨by have:=(h.X.set 0 (.int .i64 l')).set 1 v';simpa using this,a.blk h.Y (by omega),h.B.trans (a.below h.B.size fun j b e=>by omega)⟩
theorem TP (s:ByteArray) (w:World) (F:s.size<=1000000000):Calls prog 7 #[.string s] w fun e P=>dd s w e P:=by
 have n:=bA (fun W B h=>dp B s W h F);have K:(rK s).1.length<65536:=by rw[rK,jW,JR];exact nL 2 _
 have r:=bA (fun W o k (h:gF W o (rK s).1)=>FK (jB (aV s).1) o k _ W h (sf s F) (by omega));have J:(rK s).2.r9=true/\uX s=(0,[],false)\/(rK s).2.r9=false/\(((zG (jB (aV s).1) (rK s).1).toList==s.toList)=true/\uX s=(jB (aV s).1,(rK s).1,true)\/((zG (jB (aV s).1) (rK s).1).toList==s.toList)=false/\uX s=(0,[],false)):=by
  cases l:(rK s).2.r9 with
  |true=>exact Ca ⟨rfl,mm l⟩
  |false=>
   refine Ja ⟨rfl,?_⟩;by_cases m:zG (jB (aV s).1) (rK s).1=s
   ·exact Ca ⟨by simp[m],aDw m l⟩
   ·refine Ja ⟨Yc.2 fun h=>m (wK ?_),aDx m⟩;simpa[ByteArray.toList_eq]using eq_of_beq h
 unfold db at n;unfold dd;have N:=bA (DB.new w s);clear K;generalize uX s=D at *;generalize zG (jB (aV s).1) (rK s).1=U at *;generalize jB (aV s).1=L at *;generalize (rK s).1=y at *;generalize (rK s).2=Z at *;rcases J with⟨l,rfl⟩|⟨l,⟨I,rfl⟩|⟨I,rfl⟩⟩
 all_goals
  go_enter_defers func7,ntmps7;go_wp2_with fail;refine(n.out _ (w.heap.size+1+1) N.out.2).mono ?_;rintro e E (⟨t,o,k,rfl,A,-,z⟩|⟨t,rfl,z⟩)
 all_goals first|exact absurd (t.symm.trans l) (by decide)|skip
 all_goals
  have X:=bA (N.out.1.turn (gA.but z) (fun j e=>by omega));clear z n N
 all_goals first
  |(have q:=A
    have O:Hid (dG E (w.heap.size+1+1+1) o y):=bA (by simpa using A)
    obtain⟨R,T⟩:=X.out.X.c2
    have d:=X.out.X.free
    clear A
    go_wp2_with fail
    replace X:=bA (X.out.set (l':=L) (v':=.slice o y.length k))
    have G:=((gA.refl (·=w.heap.size) E).setCell (Ca rfl) 0 (.int .i64 L)).setCell (Ca rfl) 1 (.slice o y.length k)
    replace O:=bA (O.out.turn G (fun g e=>by omega))
    clear R T d G
    generalize (E.setCell ⟨w.heap.size,0,none⟩ (.int .i64 L)).setCell ⟨w.heap.size,1,none⟩ (.slice o y.length k)=V at *
    refine(r.out _ _ _ O.out.recs).mono ?_
    rintro e Q ⟨rfl,p⟩
    replace X:=bA (X.out.turn (S:=fun _=>False) (gA.of p) (fun j e=>e.elim))
    replace O:=bA (O.out.later p)
    obtain⟨u,v⟩:=X.out.X.c2
    have x:=X.out.Y.cell 0
    have d:=X.out.X.free
    have i:=X.out.Y.free
    clear p r
    go_wp2_with fail)
  |skip
 rotate_left
 ·refine pD (eX _ _) ?_;go_wp2;refine leaves_cons (f:=30) (args:=#[.pointer (some ⟨w.heap.size,0,none⟩),.pointer (some ⟨w.heap.size+1,0,none⟩)]) (by simp) (by simp[go_sem]) ?_;refine(WU _ _ _).mono ?_;rintro e M C ⟨rfl,rfl,rfl⟩;simp[Leaves,settle,results,results7,go_sem,u,v,x];have H:=fun a b c=>(((gA.refl (·<w.heap.size+1+1+1) Q).setCell (g:=w.heap.size) (Ca (by omega)) 0 a).setCell (g:=w.heap.size) (Ca (by omega)) 1 b).setCell (g:=w.heap.size+1) (Ca (by omega)) 0 c;exact⟨(O.out.turn (H _ _ _) (fun g e=>e)).mono (by omega),((X.out.B.setCell (by simp) _).setCell (by simp) _).setCell (by simp) _⟩
 refine pD (nS _ _) ?_;all_goals
  obtain⟨u,v⟩:=X.out.X.c2;have x:=X.out.Y.cell 0;refine leaves_cons (f:=30) (args:=#[.pointer (some ⟨w.heap.size,0,none⟩),.pointer (some ⟨w.heap.size+1,0,none⟩)]) (by simp) (by simp[go_sem]) ?_;refine(SG w.heap.size (w.heap.size+1) _ _ _ _ _ [] _ u v x (X.out.X.free 0) (X.out.X.free 1) (X.out.Y.free 0) (by omega)).mono ?_;rintro e M C ⟨rfl,rfl,rfl⟩;simp[Leaves,settle,results,results7,go_sem,u,v,x];exact⟨Ca rfl,((X.out.B.setCell (by simp) _).setCell (by simp) _).setCell (by simp) _⟩
