import Derived.Test.YtabgbmfcbobamaaGreatDoorJ16
set_option maxRecDepth 100000
set_option maxHeartbeats 2000000
namespace Go.Proofs.YtabgbmfcbobamaaGreatDoor
open Go.RowKit Tryz
def mi:Nat->Int->Int
 |0,x=>x
 |k+1,x=>wrap64 (mi k x+mi k x)
def shK:Nat->Int->Int
 |0,e=>e
 |k+1,e=>shK k e / 2
def ZW:Nat->Int->Bool
 |0,_=>true
 |k+1,e=>ZW k e&&(shK k e).tmod 2 != 0
def ZP (b:Int):Bool:=ZW 11 (b / 4503599627370496) &&mi 12 b != 0
theorem aAs (b:Int) (w:World):Calls prog 123 #[.int .i64 b] w fun e j=>e=.returned (.bool (ZP b))/\j=w:=by
 have d:Hid (ZP b=(ZW 11 (b / 4503599627370496) &&mi 12 b != 0)):=rfl;generalize ZP b=V at *;go_enter func123,ntmps123;go_wp2;go_loopw [3,5] (fun f i wr=>∃k:Nat,k<=12/\i=.int .i64 k/\f=.int .i64 (mi k b)/\wr=w) (fun _ i _=>12-(intOf i).toNat)
 case atStart=>exact⟨0,by omega,rfl,rfl,rfl⟩
 case round=>
  obtain⟨k,g,rfl,rfl,rfl⟩:=hrel;by_cases h:k<12
  ·go_wp2;exact⟨⟨k+1,by omega,by go_num,rfl,trivial⟩,by simp[intOf];omega⟩
  ·obtain rfl:k=12:=by omega
   generalize mi 12 b=D at *;go_wp2;generalize b / 4503599627370496=E at *;go_loopw [4,6,7] (fun e a i l=>∃k:Nat,k<=11/\i=.int .i64 k/\e=.int .i64 (shK k E)/\a=.bool (ZW k E)/\l=wr) (fun _ _ i _=>11-(intOf i).toNat)
   case atStart=>exact⟨0,by omega,rfl,rfl,rfl,rfl⟩
   case round=>
    obtain⟨k,g,rfl,rfl,rfl,rfl⟩:=hrel;by_cases h:k<11
    ·have c:ZW (k+1) E=(ZW k E&&(shK k E).tmod 2 != 0):=rfl;generalize ZW k E=y at *;cases y
     all_goals
      replace c:=bA c;go_wp2;exact⟨⟨k+1,by omega,by go_num,rfl,by rw[c.out];simp,trivial⟩,by simp[intOf];omega⟩
    ·obtain rfl:k=11:=by omega
     generalize ZW 11 E=y at *;cases y
     all_goals
      go_wp2;go_ret;exact⟨by rw[d.out];rfl,rfl⟩
theorem FE (b:List mA):((kF b).1=0->pA b=(mF [] b,0,0)/\GQ b/\gU b=true/\(kF b).2=0/\¬16<b.length)/\((kF b).1≠0->pA b=([],(kF b).1,(kF b).2)):=by
 by_cases a:16<b.length
 ·rw[KG a,JM a];exact⟨fun h=>absurd h (by simp),fun _=>rfl⟩
 cases hb:kC b 0 with
 |some e=>
  obtain⟨c,i⟩:=e;rw[OZ a hb,DE a hb];refine⟨fun h=>?_,fun _=>rfl⟩;exfalso;have:∀(l:List mA) (j:Nat),kC l j=some (c,i)->c≠0:=by
   intro l;induction l with
   |nil=>intro j h;simp[kC]at h
   |cons x r g=>
    intro j h;rw[kC]at h;split at h
    ·exact g _ h
    ·rename_i f;simp only[Pa,Hc]at h;rw[<-h.1];exact f
  exact this b 0 hb h
 |none=>
  cases ht:uD [] b 0 with
  |some i=>
   rw[FF a hb ht,EV a hb ht];exact⟨fun h=>absurd h (by simp),fun _=>rfl⟩
  |none=>
   have d:=aAw b ht;rw[PA a hb ht,ZM b d];cases hm:gU b with
   |true=>
    rw[WS a hb ht hm];exact⟨fun _=>⟨rfl,d,rfl,rfl,a⟩,fun h=>absurd rfl h⟩
   |false=>
    rw[OM a hb ht hm];exact⟨fun h=>absurd h (by simp),fun _=>rfl⟩
theorem PO {b:List mA} (h:gU b=true):0<(jK b).length:=by
 unfold gU at h;rw[Tf]at h;obtain⟨x,c,a⟩:=h;rw[Sa]at a;exact List.length_pos_of_mem (Ge.2 ⟨c,a.1⟩)
theorem NE (a:Option Addr) (m:Nat) (c:List mA) (w:World) (hf:sC w a c) (hB:rb c) (X:c.length<=2000000) (V:c.length<=m) (hT:xI w):
 Calls prog 179 #[.slice a c.length m] w fun e D=>∃a' n,e=.returned (.tuple #[.slice a' (pA c).1.length n,.int .i64 ((pA c).2.1:Nat),.int .i64 ((pA c).2.2:Nat)])/\(pA c).1.length<=n/\gC D w.heap.size a' (pA c).1/\Below w.heap.size w D:=by
 have y:Hid (Calls prog 182 #[.slice a c.length m] w fun e D=>e=.returned (.tuple #[.int .i64 ((kF c).1:Nat),.int .i64 ((kF c).2:Nat)])/\Below w.heap.size w D):=XU a m c w hf hB X V hT;have HF:Hid (sC w a c):=hf;obtain⟨L,M⟩:=FE c;clear hf hB hT;by_cases S:(kF c).1=0
 ·obtain⟨r,Z,H,h2,h16⟩:=L S;have F:Hid (Calls prog 182 #[.slice a c.length m] w fun e D=>e=.returned (.tuple #[.int .i64 0,.int .i64 0])/\Below w.heap.size w D):=by
   show Calls _ _ _ _ _;have:=y.out;rw[S,h2]at this;exact this
  have j:Hid (pA c=(mF [] c,0,0)/\GQ c/\0<(jK c).length):=⟨r,Z,PO H⟩
  obtain⟨ti,b0,hz0,hz1,hz2⟩:=vV;have HI:Hid _:=b0;clear L M S r Z H h2 y b0;go_enter func179,ntmps179;go_wp2_with fail;refine F.out.mono ?_;rintro e w1 ⟨rfl,p⟩;have K:Hid _:=p;clear p F;go_wp2;go_loopw [7,9,21] (fun out _ i wr=>∃(k:Nat) (d:List mA) (P:Option Addr) (u:Nat),k<=c.length/\d.length<=k/\Hid (d=jK (c.take k))/\i=.int .i64 k/\out=.slice P d.length u/\Hid (wr.ownsRow w.heap.size 156 2 (.slice P d.length u) d.length (aB d))/\Below w.heap.size w wr) (fun _ _ i _=>c.length-(intOf i).toNat)
  case atStart=>exact⟨0,[],none,0,La _,La _,rfl,rfl,rfl,⟨rfl,Ca ⟨rfl,rfl⟩⟩,K.out⟩
  case round=>
   obtain⟨k,d,P,u,hk,hy,HY,rfl,rfl,f,l⟩:=hrel;by_cases Y:k<c.length
   ·obtain⟨b,o,rfl,hb,c0,c1⟩:=(HF.out.later l).at Y;have HS:=ex c k Y;have hE:=YS c[k];have hsz:=l.size;by_cases s:eR c[k]=true
    ·have E:Hid (d=jK (c.take (k+1))):=by show _=_;rw[HS,Qa s,Id];exact HY.out
     have heb:c[k].value.toList.isEmpty=true:=by rw[<-hE];exact s
     clear HS s hE;generalize c[k].name=nm at *;generalize c[k].value=va at *;go_wp2;exact⟨⟨k+1,d,P,u,by omega,by omega,E.out,by go_num,rfl,vA f.out (cA _ _),nA l (cA _ _)⟩,by simp[intOf];omega⟩
    ·have E:Hid (d++[c[k]]=jK (c.take (k+1))):=by show _=_;rw[HS,Oa s,HY.out]
     have heb:c[k].value.toList.isEmpty=false:=by rw[<-hE];simpa using s
     have HLK:Hid (aB [c[k]]=[.string c[k].name,.string c[k].value]):=rfl;clear HS s hE;generalize c[k]=lk at *;generalize lk.name=nm at *;generalize lk.value=va at *;have HW:Hid (∀x,Below wr.heap.size wr ((wr.alloc (.cells #[.string nm,.string va] 156)).alloc x)):=fun x=>nA (cA _ _) (cA _ _);go_wp2_with(at_builtin;refine wpList_append_lies _ rfl _ _ _ rfl w.heap.size 156 ti _ 2 32 underlying123 HI.out hz0 hz1 hz2 rfl (by omega) (.slice P d.length u) d.length (aB d) rfl (by exact vA f.out (HW.out _)) ⟨wr.heap.size+1,0,none⟩ 1 1 [.string nm,.string va] rfl rfl (by exact ov _ _ #[.string nm,.string va] _) (by simp[Value.oneCell']) (by omega) (by simp[maxLen];omega) (by omega) (by simp;omega) (wr.heap.size+1+1) (by simp) ?_;intro g5 R w5 t A hat5 hlt5);have hB5:=(nA l (HW.out _)).grown A (by simp;omega) (fun q hq=>uF f.out q hq);have O:(d++[lk]).length=d.length+1:=by simp
     have hxs:aB d++[.string nm,.string va]=aB (d++[lk]):=by rw[eD,HLK.out]
     rw[hxs,<-O]at t;exact⟨⟨k+1,d++[lk],some ⟨g5,0,none⟩,R,by omega,by rw[O];omega,E.out,by go_num,by rw[O],t,hB5⟩,by simp[intOf];omega⟩
   ·have Q:Hid (d=jK c):=by show _=_;rw[HY.out,Ua (by omega)]
    have J:0<d.length:=by rw[Q.out];exact j.out.2.2
    have G:=rF f.out;obtain⟨g,z,hav,N,W,T,hcv⟩:∃g z,P=some ⟨g,0,none⟩/\w.heap.size<=g/\eA wr g z 156/\fO wr g 0 d/\d.length<=u:=by
     rcases f.out.2 with⟨_,hl⟩|⟨g,n,z,s,N,hg,hcc,_⟩
     ·omega
     ·simp only[Value.slice.injEq]at s;rcases G with h|⟨g',o',cur',t',e',_,_,hl⟩
      ·rw[h]at J;exact absurd J (by simp)
      ·rw[s.1]at e';simp only[Pa,Addr.mk.injEq,Yb]at e';obtain⟨rfl,rfl⟩:=e';exact⟨g,z,s.1,N,hg,hl,by rw[s.2.2];exact hcc⟩
    have HSC:Hid (Calls prog 183 #[.slice (some ⟨g,0,none⟩) d.length u,.func (.func 184) #[] #[]] wr fun e D=>
     e=.returned (.tuple #[])/\∃B,B.Perm d/\B.Pairwise Le/\gC D w.heap.size (some ⟨g,0,none⟩) B/\Below w.heap.size wr D):=haveI:=aAl;VF g u d wr w.heap.size N W T (by omega)
    subst hav;clear f G T W;go_wp2_with fail;refine HSC.out.mono ?_;rintro e w2 ⟨rfl,B,hp,hs,a0,U⟩;have E1:=ql j.out.2.1 (by rw[<-Q.out];exact hp) hs;have EL:Hid (d.length=(mF [] c).length):=by show _=_;rw[<-E1,hp.length_eq]
    have HOW:Hid (gC w2 w.heap.size (some ⟨g,0,none⟩) (mF [] c)):=by rw[<-E1];exact a0
    have HB2:Hid _:=l.trans U;clear hp hs a0 U E1;go_wp2;refine bodyPost_ret (v:=.tuple #[.slice (some ⟨g,0,none⟩) d.length u,.int .i64 0,.int .i64 0]) (by simp[results,results179,go_sem]) rfl ⟨some ⟨g,0,none⟩,u,?_,?_,?_,HB2.out⟩
    ·rw[j.out.1,EL.out];rfl
    ·rw[j.out.1,<-EL.out];exact hcv
    ·rw[j.out.1];exact HOW.out
 ·have r:=M S;have j:Hid _:=r;have h0b:(((kF c).1:Int) != 0)=true:=by simp;omega
  clear L M S r;generalize (kF c).1=C at *;generalize (kF c).2=I at *;go_enter func179,ntmps179;go_wp2_with fail;refine y.out.mono ?_;rintro e w1 ⟨rfl,p⟩;have K:Hid _:=p;clear p y;go_wp2;refine bodyPost_ret (v:=.tuple #[.slice none 0 0,.int .i64 C,.int .i64 I]) (by simp[results,results179,go_sem]) rfl ⟨none,0,?_,?_,?_,K.out⟩
  ·rw[j.out];rfl
  ·rw[j.out];exact Ka _
  ·rw[j.out];exact Ca rfl
theorem dw {a:List mA} (h:(pA a).2.1=0):0<(pA a).1.length/\0<a.length:=by
 obtain⟨d,e⟩:=FE a;by_cases c:(kF a).1=0
 ·obtain⟨b,_,g,_⟩:=d c;have f:=PO g;have i:=DQ a;rw[b];simp only;rw[nZ];exact⟨f,by omega⟩
 ·have b:=e c;rw[b]at h;exact absurd h c
theorem JF:∀(a b:List mA),Lib.allEq wR a b=vE a b
 |[],[]=>rfl
 |[],_::_=>rfl
 |_::_,[]=>rfl
 |x::r,y::q=>by rw[Lib.allEq,vE,JF r q]
theorem KZ [Inhabited mA] {w : World} {b o : Nat} {ls : List mA} (h : fO w b o ls) : ∀ j, j < ls.length → ∀ i v, (sP ls[j]!)[i]? = some v → w.cell? ⟨b, o + j * 2 + i, none⟩ = some v := by
  intro j hj i v hi
  have h1 := h j hj
  have e : ls[j]! = ls[j] := getElem!_pos ls j hj
  rw [e] at hi
  match i, hi with
  | 0, hi => simp [sP] at hi; rw [← hi]; exact h1.1
  | 1, hi => simp [sP] at hi; rw [← hi]; exact h1.2
  | i + 2, hi => simp [sP] at hi
theorem sC.some {w:World} {a:Option Addr} {c:List mA} (h:sC w a c) (d:0<c.length):∃b o,a=some ⟨b,o,none⟩/\b<w.heap.size/\fO w b o c:=by
 rcases h with rfl|h
 ·exact absurd d (by simp)
 ·exact h
theorem XM (w:World) (q:Nat):Below w.heap.size w (w.drewN q):=⟨rfl,rfl,rfl,Ka _,fun _ _=>rfl⟩
theorem mu (a a' : Option Addr) (cap cap' : Nat) (xs ys : List mA) (w : World) (hx : sC w a xs) (hy : sC w a' ys) (hx0 : 0 < xs.length) (hy0 : 0 < ys.length) (hxl : xs.length ≤ 2000000) (hyl : ys.length ≤ 2000000) :
    Calls prog 180 #[.slice a xs.length cap, .slice a' ys.length cap'] w fun e w' => e = .returned (.bool (vE xs ys)) ∧ Below w.heap.size w w' := by
  obtain⟨b1, o1, rfl, _, h1⟩ := hx.some hx0
  obtain⟨b2, o2, rfl, _, h2⟩ := hy.some hy0
  haveI := aAl
  have hcon := AnyQ.slices_Equal eqlL 2 isAgg156 sizeOf156 sP (fun _ => rfl) wR aEu b1 o1 xs.length cap b2 o2 ys.length cap' xs ys w (Nat.le_refl _) (Nat.le_refl _) (by omega) (by omega) (KZ h1) (KZ h2)
  change Calls prog 180 _ _ _ at hcon
  refine hcon.mono ?_
  rintro e w' ⟨rfl, q, rfl⟩
  rw [List.take_length, List.take_length, JF]
  exact⟨rfl, XM w q⟩
theorem nz (a:Option Addr) (d:Nat) (b:List mA) (w:World) (s:sC w a b) (z:rb b) (h:b.length<=2000000) (k:b.length<=d) (A:xI w):
 Calls prog 175 #[.slice a b.length d] w fun e n=>e=.returned (.bool (iO b))/\Below w.heap.size w n:=by
 have l:Hid (Calls prog 179 #[.slice a b.length d] w fun e n=>∃y g,e=.returned (.tuple #[.slice y (pA b).1.length g,.int .i64 ((pA b).2.1:Nat),.int .i64 ((pA b).2.2:Nat)])/\(pA b).1.length<=g/\gC n w.heap.size y (pA b).1/\Below w.heap.size w n):=NE a d b w s z h k A;have D:Hid (sC w a b):=s;have J:=JL b;clear s z A;by_cases i:(pA b).2.1=0
 ·obtain⟨t,u⟩:=dw i;have p:Hid _:=fun W m q H I=>mu m a q d _ b W H I t u (by omega) h;have E:Hid (iO b=vE (pA b).1 b):=by show _=_;unfold iO;rw[i];rfl
  have r:(((pA b).2.1:Int)==0)=true:=by simp;omega
  rw[E.out];clear i E;generalize vE (pA b).1 b=K at *;generalize (pA b).1=C at *;generalize (pA b).2.1=F at *;generalize (pA b).2.2=G at *;go_enter func175,ntmps175;go_wp2_with fail;refine l.out.mono ?_;rintro e v ⟨m,q,rfl,_,f,c⟩;have o:Hid _:=c;have x:Hid (sC v m C/\sC v a b):=⟨f.labs,D.out.later c⟩
  clear f c l;go_wp2_with fail;refine(p.out _ _ _ x.out.1 x.out.2).mono ?_;rintro e L ⟨rfl,j⟩;have B:Hid _:=nA o.out j;clear j;go_wp2;go_ret;exact⟨rfl,B.out⟩
 ·have E:Hid (iO b=false):=by show _=_;unfold iO;rw[Bc i];rfl
  have r:(((pA b).2.1:Int)==0)=false:=by simp;omega
  rw[E.out];clear i E;generalize (pA b).1=C at *;generalize (pA b).2.1=F at *;generalize (pA b).2.2=G at *;go_enter func175,ntmps175;go_wp2_with fail;refine l.out.mono ?_;rintro e v ⟨m,q,rfl,_,f,c⟩;have o:Hid _:=c;clear f c l;go_wp2;go_ret;exact⟨rfl,o.out⟩
theorem tg (a:ByteArray):JS a<=255:=by
 have:=nL 1 ⟨a,false⟩;unfold JS;omega
theorem fj (B:Nat) (c:ByteArray) (w:World) (hB:RB w B ⟨c,false⟩) (hs:c.size<=1000000000):
 Calls prog 132 #[.pointer (some ⟨B,0,none⟩)] w fun e m=>∃g M,e=.returned (.slice (some ⟨g,0,none⟩) (qE c).1.length M)/\m.ownsRow w.heap.size 156 2 (.slice (some ⟨g,0,none⟩) (qE c).1.length M) (qE c).1.length (aB (qE c).1)/\RB m B (qE c).2/\dB B w m:=by
 have HC:Hid (Calls prog 104 #[.pointer (some ⟨B,0,none⟩),.int .i64 1] w fun e m=>e=.returned (.int .i64 (JS c:Nat))/\RB m B (zA 1 ⟨c,false⟩).2/\dB B w m):=LM B ⟨c,false⟩ 1 w hB (by omega) hs;have t:=aA hB;have hz:(zA 1 ⟨c,false⟩).2.rest.size<=1000000000:=by
  have h2:=(xG 1 ⟨c,false⟩).2.2;have h3:(zA 1 ⟨c,false⟩).2.rest.size<=c.size:=h2;omega
 have hcl:=tg c;have I:Hid (qE c=yH (zA 1 ⟨c,false⟩).2 (JS c)):=by show _=_;rw[qE]
 rw[I.out];clear I hB;generalize (zA 1 ⟨c,false⟩).2=j at *;generalize JS c=n at *;obtain⟨ti,D,U,V,X⟩:=vV;have HI:Hid _:=D;have hmk:∀W:World,(Instr.makeSlice 123 (.int .i64 0) (.int .i64 (n:Nat))).run prog W=.ok (.slice (some ⟨W.heap.size,0,none⟩) 0 n) (W.alloc (.cells (madeCells #[.string ByteArray.empty,.string ByteArray.empty] (n*2)) 156)):=fun W=>by
  have hr:=run_make (P:=prog) W 123 156 ti _ underlying123 D U .i64 .i64 0 (n:Nat) (by omega) (by omega) (by rw[X];omega) (by omega);simp only[Cd,V]at hr;exact hr
 clear D;go_enter func132,ntmps132;go_wp2_with fail;refine HC.out.mono ?_;rintro e w1 ⟨rfl,R,y⟩;have H1:Hid (RB w1 B j/\dB B w w1):=⟨R,y⟩
 have hz1:=y.size;clear R y HC;go_wp2;clear hmk;go_loopw [4,5,11] (fun out _ i wr=>∃(k:Nat) (f:List mA) (g x:Nat),k<=n/\i=.int .i64 k/\f.length<=k/\k<=f.length/\out=.slice (some ⟨g,0,none⟩) f.length x/\Hid (f=(yH j k).1)/\Hid (RB wr B (yH j k).2)/\Hid (wr.ownsRow w.heap.size 156 2 (.slice (some ⟨g,0,none⟩) f.length x) f.length (aB f))/\Hid (dB B w wr)) (fun _ _ i _=>n-(intOf i).toNat)
 case atStart=>
  refine⟨0,[],_,_,La _,rfl,La _,La _,rfl,rfl,eA.later H1.out.1 (cA _ _),⟨rfl,Ja ⟨w1.heap.size,n,_,rfl,hz1,heap_alloc_new _ _,La _,by simp[maxLen];omega,size_madeCells _ _,rfl⟩⟩,H1.out.2.alloc _⟩
 case round=>
  obtain⟨k,f,g,x,hk,rfl,hyl,hyl2,rfl,Z,v,o,u⟩:=hrel;by_cases hlt:k<n
  ·have r:(yH j k).2.rest.size<=1000000000:=by have:=(UW j k).1;omega
   have l:(oA 1 (yH j k).2).2.rest.size<=1000000000:=by have:=(yG 1 (yH j k).2).2;omega
   have K:Hid (∀W,RB W B (yH j k).2->Calls prog 105 #[.pointer (some ⟨B,0,none⟩),.int .i64 1] W fun e m=>e=.returned (.string (oA 1 (yH j k).2).1)/\RB m B (oA 1 (yH j k).2).2/\dB B W m):=fun W h=>ck B _ 1 W h (by omega) r;have L:Hid (∀W,RB W B (oA 1 (yH j k).2).2->Calls prog 105 #[.pointer (some ⟨B,0,none⟩),.int .i64 2] W fun e m=>e=.returned (.string (oA 2 (oA 1 (yH j k).2).2).1)/\RB m B (oA 2 (oA 1 (yH j k).2).2).2/\dB B W m):=fun W h=>ck B _ 2 W h (by omega) l;have J:Hid (yH j (k+1)=(f++[⟨(oA 1 (yH j k).2).1,(oA 2 (oA 1 (yH j k).2).2).1⟩],(oA 2 (oA 1 (yH j k).2).2).2)):=by show _=_;rw[fQ,dX,Z.out]
   clear r l;generalize oA 2 (oA 1 (yH j k).2).2=b at *;generalize oA 1 (yH j k).2=a at *;generalize a.1=G at *;generalize b.1=H at *;go_wp2_with fail;refine(K.out _ v.out).mono ?_;rintro e w2 ⟨rfl,S,z⟩;have Y:Hid (RB w2 B a.2/\dB B w w2/\w2.ownsRow w.heap.size 156 2 (.slice (some ⟨g,0,none⟩) f.length x) f.length (aB f)):=⟨S,u.out.trans z,uE o.out z t⟩
   clear S z K v o u;go_wp2_with fail;refine(L.out _ Y.out.1).mono ?_;rintro e E ⟨rfl,T,A⟩;have F:Hid (RB E B b.2/\dB B w E/\E.ownsRow w.heap.size 156 2 (.slice (some ⟨g,0,none⟩) f.length x) f.length (aB f)):=⟨T,Y.out.2.1.trans A,uE Y.out.2.2 A t⟩
   have hz3:=F.out.2.1.size;clear T A L Y;go_wp2_with(at_builtin;refine wpList_append_lies _ rfl _ _ _ rfl w.heap.size 156 ti _ 2 32 underlying123 HI.out U V X rfl (by omega) (.slice (some ⟨g,0,none⟩) f.length x) f.length (aB f) rfl (by exact vA F.out.2.2 (cA _ _)) ⟨E.heap.size,0,none⟩ 1 1 [.string G,.string H] rfl rfl (by exact World.news_of_block (cs:=#[.string G,.string H]) (heap_alloc_new _ _)) (by simp[Value.oneCell']) (by omega) (by simp[maxLen];omega) (by omega) (by simp;omega) (E.heap.size+1) (by simp) ?_;intro g5 N w5 p d hat5 hlt5);have C:=(d.block B (by simp;omega) (fun e=>by have:=uF F.out.2.2 B e.symm;omega)).trans ((cA E _).block B (by omega));have O:dB B w w5:=by
    have s:=F.out.2.1;refine⟨d.os.trans s.os,d.tape.trans s.tape,d.output.trans s.output,?_,fun q hq hne=>?_⟩
    ·have:=d.size;simp at this;omega
    ·exact(d.block q (by simp;omega) (fun e=>by have:=uF F.out.2.2 q e.symm;omega)).trans (((cA E _).block q (by omega)).trans (s.block q hq hne))
   have Q:(f++[(⟨G,H⟩:mA)]).length=f.length+1:=by simp
   have hxs:aB f++[.string G,.string H]=aB (f++[⟨G,H⟩]):=by rw[eD];rfl
   rw[hxs,<-Q]at p;refine⟨⟨k+1,f++[(⟨G,H⟩:mA)],g5,N,by omega,by go_num,by omega,by omega,by rw[Q],by show _=_;rw[J.out],?_,p,O⟩,by simp[intOf];omega⟩;show RB w5 B (yH j (k+1)).2;rw[J.out];exact C.trans F.out.1
  ·have e:k=n:=by omega
   subst e;have hY:=Z.out;clear Z;subst hY;go_wp2;go_ret;exact⟨g,x,rfl,o.out,v.out,u.out⟩
theorem YF (b:ByteArray) (w:World) (N:b.size<=1000000000) (F:xI w):
 Calls prog 168 #[.string b] w fun e t=>∃a n,e=.returned (.tuple #[.slice a (dE b).1.length n,.bool (dE b).2])/\gC t w.heap.size a (dE b).1/\Below w.heap.size w t:=by
 have x:Hid _:=fun W B h=>fj B b W h N;have q:rb (qE b).1:=fun i M=>by
  have:=pi b i M;exact⟨by omega,by omega⟩
 have G:(qE b).1.length<=255:=by
  have h:(qE b).1.length=JS b:=by rw[qE];exact kU _ _
  have:=tg b;omega
 have y:Hid (∀W B,RB W B (qE b).2->Calls prog 174 #[.pointer (some ⟨B,0,none⟩)] W fun e t=>e=.returned (.bool (eS (qE b).2))/\t=W):=fun W B h=>qv B _ W h;have C:Hid _:=fun W a c h J K=>nz a c _ W h q (by omega) K J;have D:Hid (xI w):=F;have d:Hid (RB (w.alloc (.cells #[.string b,.bool false] 68)) w.heap.size ⟨b,false⟩/\Below w.heap.size w (w.alloc (.cells #[.string b,.bool false] 68))):=⟨heap_alloc_new _ _,cA _ _⟩
 have s:w.heap.size<(w.alloc (.cells #[.string b,.bool false] 68)).heap.size:=by simp
 have r:Hid (dE b=if (eS (qE b).2&&iO (qE b).1)=true then((qE b).1,true) else([],false)):=by show _=_;rw[dE]
 clear F q;generalize eS (qE b).2=O at *;generalize iO (qE b).1=I at *;generalize (qE b).1=L at *;generalize (qE b).2=z at *;cases O with
 |true=>
  cases I with
  |true=>
   have E:Hid (dE b=(L,true)):=r.out;rw[E.out];go_enter func168,ntmps168;go_wp2_with fail;refine(x.out _ _ d.out.1).mono ?_;rintro e p ⟨g,n,rfl,f,k,j⟩;obtain⟨o,_,_,_⟩:=cG f;have l:Hid (RB p w.heap.size z/\gC p w.heap.size (some ⟨g,0,none⟩) L/\Below w.heap.size w p):=⟨k,(rF f).mono (by omega),d.out.2.trans (j.below (Ka _) (by omega))⟩
   clear f k j d s;go_wp2_with fail;refine(y.out _ _ l.out.1).mono ?_;rintro e H ⟨rfl,hw⟩;replace hw:=hw.symm;subst hw;go_wp2_with fail;refine(C.out _ _ _ l.out.2.1.labs (D.out.later l.out.2.2) o).mono ?_;rintro e A ⟨rfl,m⟩;have u:Hid (gC A w.heap.size (some ⟨g,0,none⟩) L/\Below w.heap.size w A):=⟨l.out.2.1.later m,nA l.out.2.2 m⟩
   clear m;go_wp2;refine bodyPost_ret (v:=.tuple #[.slice (some ⟨g,0,none⟩) L.length n,.bool true]) (by simp[results,results168,go_sem]) rfl ⟨_,_,rfl,u.out⟩
  |false=>
   have E:Hid (dE b=([],false)):=r.out;rw[E.out];go_enter func168,ntmps168;go_wp2_with fail;refine(x.out _ _ d.out.1).mono ?_;rintro e p ⟨g,n,rfl,f,k,j⟩;obtain⟨o,_,_,_⟩:=cG f;have l:Hid (RB p w.heap.size z/\gC p w.heap.size (some ⟨g,0,none⟩) L/\Below w.heap.size w p):=⟨k,(rF f).mono (by omega),d.out.2.trans (j.below (Ka _) (by omega))⟩
   clear f k j d s;go_wp2_with fail;refine(y.out _ _ l.out.1).mono ?_;rintro e H ⟨rfl,hw⟩;replace hw:=hw.symm;subst hw;go_wp2_with fail;refine(C.out _ _ _ l.out.2.1.labs (D.out.later l.out.2.2) o).mono ?_;rintro e A ⟨rfl,m⟩;have u:Hid _:=nA l.out.2.2 m;clear m;go_wp2;refine bodyPost_ret (v:=.tuple #[.slice none 0 0,.bool false]) (by simp[results,results168,go_sem]) rfl ⟨_,_,rfl,Ca rfl,u.out⟩
 |false=>
  have E:Hid (dE b=([],false)):=r.out;rw[E.out];go_enter func168,ntmps168;go_wp2_with fail;refine(x.out _ _ d.out.1).mono ?_;rintro e p ⟨g,n,rfl,f,k,j⟩;have l:Hid (RB p w.heap.size z/\Below w.heap.size w p):=⟨k,d.out.2.trans (j.below (Ka _) (by omega))⟩
  clear f k j d s;go_wp2_with fail;refine(y.out _ _ l.out.1).mono ?_;rintro e H ⟨rfl,hw⟩;replace hw:=hw.symm;subst hw;go_wp2;refine bodyPost_ret (v:=.tuple #[.slice none 0 0,.bool false]) (by simp[results,results168,go_sem]) rfl ⟨_,_,rfl,Ca rfl,l.out.2⟩
def rR (c b:Int) (d:List dA) (a:Int):Int×List dA×Bool:=if a<1\/1000000000000-b<a then(b,d,false) else(b+a,uC c (b+a) d,true)
theorem ye {c:vB} {a:Int} {d:List dA} (h:gB c a d=true) (b:Int):rY c a d b=rR c.w a d b:=by
 unfold rY rR;rw[Oa (by rw[h];simp)]
theorem JJ {x c a:Int} {b:Bool} (h:xA x c a=b) (w:World):Calls prog 25 #[.int .i64 x,.int .i64 c,.int .i64 a] w fun e d=>e=.returned (.bool b)/\d=w:=h ▸ hC x c a w
theorem pY (L:mP) (w:World):
 Calls prog 129 #[.agg #[.int .i64 L.first,.int .i64 L.last,.int .i64 L.size]] w fun e a=>e=.returned (.bool (yP L))/\Below w.heap.size w a:=by
 have d:Hid (Below w.heap.size w (w.alloc (.cells #[.int .i64 L.first,.int .i64 L.last,.int .i64 L.size] 80))):=cA _ _;cases h1:xA L.last 1 999999 with
 |false=>
  have E:Hid (yP L=false):=by show _=_;simp[yP,h1]
  have b:Hid _:=h1;clear h1;go_enter func129,ntmps129;go_wp2_with fail;refine(JJ b.out _).mono ?_;rintro e a ⟨rfl,rfl⟩;go_wp2;go_ret;exact⟨jA E.out.symm,d.out⟩
 |true=>
  have b:Hid _:=h1;cases h2:xA L.first 1 L.last with
  |false=>
   have E:Hid (yP L=false):=by show _=_;simp[yP,h2]
   have c:Hid _:=h2;clear h1 h2;go_enter func129,ntmps129;go_wp2_with fail;refine(JJ b.out _).mono ?_;rintro e a ⟨rfl,rfl⟩;go_wp2_with fail;refine(JJ c.out _).mono ?_;rintro e a ⟨rfl,rfl⟩;go_wp2;go_ret;exact⟨jA E.out.symm,d.out⟩
  |true=>
   have c:Hid _:=h2;have E:Hid (yP L=xA L.size 0 1000000000):=by show _=_;simp[yP,h1,h2]
   clear h1 h2;go_enter func129,ntmps129;go_wp2_with fail;refine(JJ b.out _).mono ?_;rintro e a ⟨rfl,rfl⟩;go_wp2_with fail;refine(JJ c.out _).mono ?_;rintro e a ⟨rfl,rfl⟩;go_wp2_with fail;refine(hC L.size 0 1000000000 _).mono ?_;rintro e a ⟨rfl,rfl⟩;go_wp2;go_ret;exact⟨jA E.out.symm,d.out⟩
theorem RT.laterL {w a:World} {B:Nat} {r:Rd} (h:RT w B r) (b:Below w.heap.size w a):RT a B r:=by
 obtain⟨t,h⟩:=h;exact⟨t,h.later b⟩
theorem ZF (B:Nat) (r:Rd) (w:World) (hB:RT w B r) (hs:r.rest.size<=1000000000):
 Calls prog 132 #[.pointer (some ⟨B,0,none⟩)] w fun e l=>∃g N,e=.returned (.slice (some ⟨g,0,none⟩) (wS r).1.length N)/\l.ownsRow w.heap.size 156 2 (.slice (some ⟨g,0,none⟩) (wS r).1.length N) (wS r).1.length (aB (wS r).1)/\RT l B (wS r).2/\dB B w l:=by
 have HC:Hid (Calls prog 104 #[.pointer (some ⟨B,0,none⟩),.int .i64 1] w fun e l=>e=.returned (.int .i64 ((CA r).1:Nat))/\RT l B (CA r).2/\dB B w l):=by
  have h:=gR B r 1 w hB (by omega) hs;have e:zA 1 r=CA r:=by rw[CA]
  have hl:(CA r).1<256:=by have:=nL 1 r;rw[<-e];omega
  rw[e,kD (by omega)]at h;exact h
 have v:B<w.heap.size:=by obtain⟨t,h⟩:=hB;exact aA h
 have hz:(CA r).2.rest.size<=1000000000:=by rw[CA];exact Ra (xG 1 r).2.2 hs
 have hcl:(CA r).1<=255:=by have:=nL 1 r;rw[CA];omega
 have J:Hid (wS r=yH (CA r).2 ((CA r).1)):=by show _=_;rw[wS]
 rw[J.out];clear J hB;generalize (CA r).2=f at *;generalize (CA r).1=n at *;obtain⟨ti,F,V,X,Y⟩:=vV;have HI:Hid (prog.info? 156=some ti):=F;have hmk:∀W:World,(Instr.makeSlice 123 (.int .i64 0) (.int .i64 (n:Nat))).run prog W=.ok (.slice (some ⟨W.heap.size,0,none⟩) 0 n) (W.alloc (.cells (madeCells #[.string ByteArray.empty,.string ByteArray.empty] (n*2)) 156)):=fun W=>by
  have hr:=run_make (P:=prog) W 123 156 ti _ underlying123 F V .i64 .i64 0 (n:Nat) (by omega) (by omega) (by rw[Y];omega) (by omega);simp only[Cd,X]at hr;exact hr
 clear F;go_enter func132,ntmps132;go_wp2_with fail;refine HC.out.mono ?_;rintro e w1 ⟨rfl,S,A⟩;have H1:Hid (RT w1 B f/\dB B w w1):=⟨S,A⟩
 have hz1:=A.size;clear S A HC;go_wp2;clear hmk;go_loopw [4,5,11] (fun out _ i wr=>∃(k:Nat) (d:List mA) (g z:Nat),k<=n/\i=.int .i64 k/\d.length<=k/\k<=d.length/\out=.slice (some ⟨g,0,none⟩) d.length z/\Hid (d=(yH f k).1)/\Hid (RT wr B (yH f k).2)/\Hid (wr.ownsRow w.heap.size 156 2 (.slice (some ⟨g,0,none⟩) d.length z) d.length (aB d))/\Hid (dB B w wr)) (fun _ _ i _=>n-(intOf i).toNat)
 case atStart=>
  refine⟨0,[],_,_,La _,rfl,La _,La _,rfl,rfl,RT.laterL H1.out.1 (cA _ _),⟨rfl,Ja ⟨w1.heap.size,n,_,rfl,hz1,heap_alloc_new _ _,La _,by simp[maxLen];omega,size_madeCells _ _,rfl⟩⟩,H1.out.2.alloc _⟩
 case round=>
  obtain⟨k,d,g,z,hk,rfl,hyl,hyl2,rfl,HY,y,m,x⟩:=hrel;by_cases hlt:k<n
  ·have p:(yH f k).2.rest.size<=1000000000:=by have:=(UW f k).1;omega
   have j:(oA 1 (yH f k).2).2.rest.size<=1000000000:=by have:=(yG 1 (yH f k).2).2;omega
   have L:Hid (∀W,RT W B (yH f k).2->Calls prog 105 #[.pointer (some ⟨B,0,none⟩),.int .i64 1] W fun e l=>e=.returned (.string (oA 1 (yH f k).2).1)/\RT l B (oA 1 (yH f k).2).2/\dB B W l):=fun W h=>oX B _ 1 W h (by omega) p;have M:Hid (∀W,RT W B (oA 1 (yH f k).2).2->Calls prog 105 #[.pointer (some ⟨B,0,none⟩),.int .i64 2] W fun e l=>e=.returned (.string (oA 2 (oA 1 (yH f k).2).2).1)/\RT l B (oA 2 (oA 1 (yH f k).2).2).2/\dB B W l):=fun W h=>oX B _ 2 W h (by omega) j;have K:Hid (yH f (k+1)=(d++[⟨(oA 1 (yH f k).2).1,(oA 2 (oA 1 (yH f k).2).2).1⟩],(oA 2 (oA 1 (yH f k).2).2).2)):=by show _=_;rw[fQ,dX,HY.out]
   clear p j;generalize oA 2 (oA 1 (yH f k).2).2=b at *;generalize oA 1 (yH f k).2=a at *;generalize a.1=H at *;generalize b.1=I at *;go_wp2_with fail;refine(L.out _ y.out).mono ?_;rintro e w2 ⟨rfl,T,C⟩;have Z:Hid (RT w2 B a.2/\dB B w w2/\w2.ownsRow w.heap.size 156 2 (.slice (some ⟨g,0,none⟩) d.length z) d.length (aB d)):=⟨T,x.out.trans C,uE m.out C v⟩
   clear T C L y m x;go_wp2_with fail;refine(M.out _ Z.out.1).mono ?_;rintro e u ⟨rfl,U,D⟩;have G:Hid (RT u B b.2/\dB B w u/\u.ownsRow w.heap.size 156 2 (.slice (some ⟨g,0,none⟩) d.length z) d.length (aB d)):=⟨U,Z.out.2.1.trans D,uE Z.out.2.2 D v⟩
   have hz3:w.heap.size<=u.heap.size:=G.out.2.1.size;clear U D M Z;go_wp2_with(at_builtin;refine wpList_append_lies _ rfl _ _ _ rfl w.heap.size 156 ti _ 2 32 underlying123 HI.out V X Y rfl (by omega) (.slice (some ⟨g,0,none⟩) d.length z) d.length (aB d) rfl (by exact vA G.out.2.2 (cA _ _)) ⟨u.heap.size,0,none⟩ 1 1 [.string H,.string I] rfl rfl (by exact World.news_of_block (cs:=#[.string H,.string I]) (heap_alloc_new _ _)) (by simp[Value.oneCell']) (by omega) (by simp[maxLen];omega) (by omega) (by simp;omega) (u.heap.size+1) (by simp) ?_;intro g5 O w5 o c hat5 hlt5);have E:w5.heap[B]?=u.heap[B]?:=(c.block B (by simp;omega) (fun e=>by have:=uF G.out.2.2 B e.symm;omega)).trans ((cA u _).block B (by omega));have Q:dB B w w5:=by
    have s:=G.out.2.1;refine⟨c.os.trans s.os,c.tape.trans s.tape,c.output.trans s.output,?_,fun q hq hne=>?_⟩
    ·have:=c.size;simp at this;omega
    ·exact(c.block q (by simp;omega) (fun e=>by have:=uF G.out.2.2 q e.symm;omega)).trans (((cA u _).block q (by omega)).trans (s.block q hq hne))
   have R:(d++[(⟨H,I⟩:mA)]).length=d.length+1:=by simp
   have hxs:aB d++[.string H,.string I]=aB (d++[⟨H,I⟩]):=by rw[eD];rfl
   rw[hxs,<-R]at o;refine⟨⟨k+1,d++[(⟨H,I⟩:mA)],g5,O,by omega,by go_num,by omega,by omega,by rw[R],by show _=_;rw[K.out],?_,o,Q⟩,by simp[intOf];omega⟩;show RT w5 B (yH f (k+1)).2;rw[K.out];obtain⟨tt,hh⟩:=G.out.1;exact⟨tt,E.trans hh⟩
  ·have e:k=n:=by omega
   subst e;have hY:=HY.out;clear HY;subst hY;go_wp2;go_ret;exact⟨g,z,rfl,m.out,y.out,x.out⟩
