import Derived.Test.YtjpeimianeiegaaGreatDoorJ29
import Derived.Test.YtjpeimianeiegaaGreatDoorJ04
import Derived.Test.YtjpeimianeiegaaGreatDoorJ23
set_option maxRecDepth 100000
set_option maxHeartbeats 4000000
namespace Go.Proofs.YtjpeimianeiegaaGreatDoor
open Go.RowKit Tryz
theorem LW (a:Option Addr) (b:Nat) (k:Nat) (w:World):
 Calls prog 75 #[.slice a 0 b,.int .i64 (k:Int)] w fun e c=>e=.returned (.int .i64 (k:Int))/\c=w:=by
 go_enter func75,ntmps75;go_wp2;go_loopw [1,5] (fun l i wr=>l=.int .i64 (k:Int)/\i=.int .i64 0/\wr=w) (fun _ i _=>0)
 case atStart=>exact⟨rfl,rfl,rfl⟩
 case round=>
  obtain⟨rfl,rfl,rfl⟩:=hrel;go_wp2;go_ret;exact⟨rfl,rfl⟩
theorem oz (a:List eA):a.length<=yB a:=by
 induction a with
 |nil=>exact Ha _
 |cons t r b=>simp only[Sa,yB,wN];omega
theorem LR (a:Option Addr) (H:Nat) (c:List eA) (k:Nat) (w:World) (hk:0<k) (r:k+yB c<=100000000) (S:eC w a (mF k c)):
 Calls prog 77 #[.slice a c.length H,.int .i64 (k:Int)] w fun e w'=>e=.returned (.int .i64 ((k+yB c:Nat):Int))/\Below w.heap.size w w':=by
 have V:Hid (eC w a (mF k c)):=S;have C:Hid _:=r;have T:c.length<=100000000:=by have:=oz c;omega
 clear S r;go_enter func77,ntmps77;go_wp2;go_loopw [1,5] (fun l i wr=>∃(j K:Nat),j<=c.length/\i=.int .i64 j/\l=.int .i64 (K:Int)/\Hid (K=k+yB (c.take j))/\Hid (Below w.heap.size w wr)) (fun _ i _=>c.length-(intOf i).toNat)
 case atStart=>exact⟨0,k,Ha _,rfl,rfl,by show _=_;simp[yB],Below.refl _ _⟩
 case round=>
  obtain⟨j,K,hj,rfl,rfl,s,B⟩:=hrel;by_cases g:j<c.length
  ·have d:j<(mF k c).length:=by rw[fW];exact g
   obtain⟨b,o,F,Q,G,R,rfl,J,v,y,z,A,t,u⟩:=(V.out.later B.out).at d;rw[DP d g,<-s.out]at v y z A t u;simp only[eO,qH]at v y z A t u;have n:Hid (K+wN c[j]<=100000000/\k+yB (c.take (j+1))=K+wN c[j]):=by
    have h1:=FR c j g;have h2:=RW c (j+1);have h3:=s.out;have h4:=C.out;exact⟨by omega,by omega⟩
   have hkb:K+2+2*c[j].m9.length+2*c[j].s9.length<=100000000:=by have:=n.out.1;unfold wN at this;omega
   have hKp:0<K:=by have:=s.out;omega
   have X:Hid (vA wr F (tF (K+2) c[j].m9.length)):=t;have Y:Hid (vA wr G (tF (K+2+2*c[j].m9.length) c[j].s9.length)):=u;have P:Hid (∀W,Below wr.heap.size wr W->W.cell? ⟨b,o+j*4+1,none⟩=some (.int .i64 ((K:Int)+1))/\W.cell? ⟨b,o+j*4+2,none⟩=some (.slice F c[j].m9.length Q)/\W.cell? ⟨b,o+j*4+3,none⟩=some (.slice G c[j].s9.length R)):=fun W I=>⟨by rw[I.cell J,y];simp,(I.cell J).trans z,(I.cell J).trans A⟩
   have d0:=oA.cells v;have L:=oA.there wr;clear v y z A t u;go_wp2_with fail;refine jA (by kernel_rfl) (by kernel_rfl) ?_;repeat (go_big_quiet_step (first|(go_at_call 74;exact tA (wG _ K (by omega) _ (by omega) (by omega)))))
   refine wpQuiet_nil ?_;rintro _ ⟨x,rfl⟩;have D:Hid _:=x.h;clear d0 L;generalize x.w'=Z at *;clear x;obtain⟨M,N,O⟩:=P.out Z D.out;go_wp2_with fail;refine(VI (.inl rfl) _ F Q (K+2) c[j].m9.length _ (by omega) (by omega) (by omega) (X.out.later D.out)).mono ?_;rintro e w3 ⟨rfl,p⟩;have f:Hid _:=pA D.out p;clear p M N O;obtain⟨M,N,O⟩:=P.out w3 f.out;go_wp2_with fail;refine(VI (.inr rfl) _ G R (K+2+2*c[j].m9.length) c[j].s9.length _ (by omega) (by omega) (by omega) (Y.out.later f.out)).mono ?_;rintro e w4 ⟨rfl,q⟩;have E:Hid _:=pA B.out (pA f.out q);have m:Hid (((K+2+2*c[j].m9.length+2*c[j].s9.length:Nat):Int)=((k+yB (c.take (j+1)):Nat):Int)):=by
    show _=_;have:=n.out.2;unfold wN at this;omega
   clear q M N O;go_wp2;exact⟨⟨j+1,k+yB (c.take (j+1)),by omega,by go_num,Zc (Value.int .i64) (by have:=m.out;omega),rfl,E.out⟩,by simp[intOf];omega⟩
  ·have ej:j=c.length:=by omega
   have U:Hid (((K:Nat):Int)=((k+yB c:Nat):Int)):=by show _=_;rw[s.out,ej,Qb]
   go_wp2;go_ret;exact⟨iC U.out,B.out⟩
theorem SN (f:Int) (a:Option Addr) (b:Nat) (c:List eA) (k:Nat) (w:World) (m:0<k) (d:k+yB c<=100000000) (h:eC w a (mF k c)):
 Calls prog 39 #[.agg #[.int .i64 f,.slice a c.length b],.int .i64 (k:Int)] w fun e n=>e=.returned (.int .i64 ((k+yB c:Nat):Int))/\Below w.heap.size w n:=by
 have j:Hid _:=fun W l=>LR a b c k W m d (h.later l);clear h;go_enter func39,ntmps39;go_wp2_with fail;refine(j.out _ (cA _ _)).mono ?_;rintro e o ⟨rfl,g⟩;have i:Hid _:=pA (cA _ _) g;clear g;go_wp2;go_ret;exact⟨iC (by omega),i.out⟩
theorem SJ (f:eA) (d b g c:Option Addr) (m h n i:Nat) (w:World) (p:vA w d f.m9) (q:vA w b f.s9) (r:vA w g f.m9) (s:vA w c f.s9) (y:f.m9.length<=maxLen) (z:f.s9.length<=maxLen):
 Calls prog 115 #[.agg #[.string f.name,.int .i64 f.l9,.slice d f.m9.length m,.slice b f.s9.length h],.agg #[.string f.name,.int .i64 f.l9,.slice g f.m9.length n,.slice c f.s9.length i]] w fun e l=>e=.returned (.bool true)/\Below w.heap.size w l:=by
 have v:Hid (∀W,Below w.heap.size w W->Calls prog 154 #[.slice d f.m9.length m,.slice g f.m9.length n] W fun e l=>e=.returned (.bool true)/\Below W.heap.size W l):=
  fun W j=>zY d g m n f.m9 W (p.later j) (r.later j) y
 have x:Hid (∀W,Below w.heap.size w W->Calls prog 155 #[.slice b f.s9.length h,.slice c f.s9.length i] W fun e l=>e=.returned (.bool true)/\Below W.heap.size W l):=
  fun W j=>OJ b c h i f.s9 W (q.later j) (s.later j) z
 clear p q r s;go_enter func115,ntmps115;go_wp2_with fail;refine(v.out _ (pA (cA _ _) (cA _ _))).mono ?_;rintro e t ⟨rfl,a⟩;have o:Hid _:=pA (pA (cA _ _) (cA _ _)) a;have A:t.cell? ⟨w.heap.size,3,none⟩=some (.slice b f.s9.length h):=(((lA.new w _ _).alloc _).later a).cell 3;have B:t.cell? ⟨w.heap.size+1,3,none⟩=some (.slice c f.s9.length i):=by
  have:=((lA.new (w.alloc (.cells #[.string f.name,.int .i64 f.l9,.slice d f.m9.length m,.slice b f.s9.length h] 107)) #[.string f.name,.int .i64 f.l9,.slice g f.m9.length n,.slice c f.s9.length i] 107).later a).cell 3;simpa using this
 clear a;go_wp2_with fail;refine(x.out _ o.out).mono ?_;rintro e C ⟨rfl,k⟩;have u:Hid _:=pA o.out k;clear k;go_wp2;go_ret;exact⟨rfl,u.out⟩
def aEb (a:List eA):Prop:=∀i (h:i<a.length),a[i].m9.length<=maxLen/\a[i].s9.length<=maxLen
theorem OK (a n:Option Addr) (p g:Nat) (c:List eA) (w:World) (C:eC w a c) (j:eC w n c) (l:c.length<=maxLen) (D:aEb c):
 Calls prog 72 #[.slice a c.length p,.slice n c.length g] w fun e q=>e=.returned (.bool true)/\Below w.heap.size w q:=by
 unfold maxLen at l;have J:Hid (eC w a c):=C;have m:Hid (eC w n c):=j;have r:Hid (aEb c):=D;clear C j D;go_enter func72,ntmps72;go_wp2;go_loopw [5] (fun i wr=>∃k:Nat,k<=c.length/\i=.int .i64 k/\Below w.heap.size w wr) (fun i _=>c.length-(intOf i).toNat)
 case atStart=>exact⟨0,Ha _,rfl,Below.refl _ _⟩
 case round=>
  obtain⟨k,hk,rfl,d⟩:=hrel;by_cases f:k<c.length
  ·obtain⟨b,o,K,Q,L,R,rfl,hb,s,t,u,v,E,F⟩:=(J.out.later d).at f;obtain⟨U,o',M,S,N,T,rfl,O,y,z,A,B,G,H⟩:=(m.out.later d).at f;have V:=oA.cells s;have W:=oA.cells t;have X:=oA.cells u;have Y:=oA.cells v;have Z:=oA.cells y;have g1:=oA.cells z;have g2:=oA.cells A;have g3:=oA.cells B;have I:Hid (∀x:oA wr,Calls prog 115 #[.agg #[.string c[k].name,.int .i64 c[k].l9,.slice K c[k].m9.length Q,.slice L c[k].s9.length R],.agg #[.string c[k].name,.int .i64 c[k].l9,.slice M c[k].m9.length S,.slice N c[k].s9.length T]] x.w' fun e q=>e=.returned (.bool true)/\Below x.w'.heap.size x.w' q):=
    fun x=>SJ c[k] _ _ _ _ _ _ _ _ x.w' (E.later x.h) (F.later x.h) (G.later x.h) (H.later x.h) (r.out k f).1 (r.out k f).2
   clear s t u v y z A B E F G H;have P:=oA.there wr;go_wp2_with fail;refine jA (by kernel_rfl) (by kernel_rfl) ?_;repeat (go_big_quiet_step (exact tA (I.out _)))
   refine wpQuiet_nil ?_;rintro _ ⟨x,rfl⟩;go_wp2;exact⟨⟨k+1,by omega,by go_num,d.trans (x.h.mono d.size)⟩,by simp[intOf];omega⟩
  ·go_wp2;go_ret;exact⟨rfl,d⟩
theorem YX (i:Int) (a j:Option Addr) (d b:Nat) (c:List eA) (w:World) (m:eC w a c) (g:eC w j c) (h:c.length<=maxLen) (n:aEb c):
 Calls prog 34 #[.agg #[.int .i64 i,.slice a c.length d],.agg #[.int .i64 i,.slice j c.length b]] w fun e k=>e=.returned (.bool true)/\Below w.heap.size w k:=by
 have p:Hid (∀W,Below w.heap.size w W->Calls prog 72 #[.slice a c.length d,.slice j c.length b] W fun e k=>e=.returned (.bool true)/\Below W.heap.size W k):=
  fun W l=>OK a j d b c W (m.later l) (g.later l) h n
 clear m g n;go_enter func34,ntmps34;go_wp2_with fail;refine(p.out _ (pA (cA _ _) (cA _ _))).mono ?_;rintro e q ⟨rfl,f⟩;have o:Hid _:=pA (pA (cA _ _) (cA _ _)) f;clear f;go_wp2;go_ret;exact⟨rfl,o.out⟩
theorem aKn (d:ByteArray):mL (d.extract 0 4).data.toList=xB d:=by
 have h:=oL d 0 4;rw[Oa]at h;rw[h];rfl
theorem aNo (d:ByteArray):mL (d.extract 4 8).data.toList=mL (zC d 4 4):=by rw[<-oL d 4 4]
theorem zf (d:ByteArray) (N:Nat) (h:8+N<=d.size):(d.extract 8 d.size).extract 0 N=d.extract 8 (8+N):=by
 apply UJ;have a:=oL (d.extract 8 d.size) 0 N;rw[Oa]at a;have b:=oL d 8 (d.size-8);rw[show 8+(d.size-8)=d.size by omega]at b;rw[a,oL,zC,b,zC,zC,Vc,List.take_take,Nat.min_eq_left (by omega)]
theorem jb (d:ByteArray) (b:Nat) (a:Array Value) (w:World) (T:d.size<=maxLen) (G:lA w b a 317) (g:∀i,i<256->a[i]?=some (.int .u32 (YQ i:Nat))):
 Calls prog 224 #[.string d,.pointer (some ⟨b,0,none⟩)] w fun e c=>(∃p,e=.returned (.tuple #[.string p,.bool (frB d)])/\(nH d->p=d.extract 8 (8+xB d)))/\Below w.heap.size w c:=by
 have D:Hid (lA w b a 317/\∀i,i<256->a[i]?=some (.int .u32 (YQ i:Nat))):=⟨G,g⟩
 clear G g;unfold maxLen at T;by_cases U:d.size<8
 ·have E:Hid (¬nH d):=fun h=>by have:=h.1;omega
  go_enter func224,ntmps224;go_wp2;refine bodyPost_ret (v:=.tuple #[.string ByteArray.empty,.bool false]) (by simp[results,results224,go_sem];rfl) rfl ⟨⟨ByteArray.empty,by rw[ie E.out],fun h=>absurd h E.out⟩,Below.refl _ _⟩
 have n:Hid (∀W,Calls prog 241 #[.string (d.extract 0 4)] W fun e c=>e=.returned (.int .i64 (xB d:Nat))/\c=W):=fun W=>by
  rw[<-aKn d];exact gX _ W (by rw[Yb];omega)
 have u:Hid (∀W,Calls prog 241 #[.string (d.extract 4 8)] W fun e c=>e=.returned (.int .i64 (mL (zC d 4 4):Nat))/\c=W):=fun W=>by
  rw[<-aNo d];exact gX _ W (by rw[Yb];omega)
 have r:Hid (∀W,Calls prog 259 #[.int .i64 (xB d:Int)] W fun e c=>e=.returned (.bool (uA (xB d) 1 60000))/\c=W):=fun W=>aFm _ W;have q:=oA.there w;have L:(4:Int)<=(d.size:Int):=by omega
 have M:(8:Int)<=(d.size:Int):=by omega
 have S:(d.extract 8 d.size).size=d.size-8:=by rw[Yb];omega
 by_cases h:1<=xB d/\xB d<=60000/\xB d<=d.size-8
 ·have z:Hid ((d.extract 8 d.size).extract 0 (xB d)=d.extract 8 (8+xB d)):=zf d _ (by omega);have A:Hid (((d.extract 8 d.size).extract 0 (xB d)).size<=maxLen):=by
   show _<=_;rw[z.out,kU (by omega)];unfold maxLen;omega
  have R:uA (xB d) 1 60000=true:=by simp[uA];omega
  rw[R]at r;have m:Hid (nH d ↔ mL (zC d 4 4)=kH (d.extract 8 (8+xB d))):=⟨fun j=>j.2.2.2.2,fun j=>⟨by omega,h.1,h.2.1,h.2.2,j⟩⟩
  have C:¬((d.size-8:Nat):Int)<(xB d:Int):=by omega
  generalize xB d=N at *;obtain⟨O,P,Q⟩:=h;generalize mL (zC d 4 4)=K at *;go_enter func224,ntmps224;go_wp2_with fail;refine jA (by kernel_rfl) (by kernel_rfl) ?_;repeat (go_big_quiet_step ((go_at_call 241;exact jB (n.out _))))
  refine wpQuiet_nil ?_;rintro _ ⟨x,rfl⟩;have f:Hid _:=x.h;have s:Hid (lA x.w' b a 317):=D.out.1.later x.h;generalize x.w'=H at *;clear q;have q:=oA.there H;go_wp2_with(go_at_call 259;refine(r.out _).mono ?_;rintro e c ⟨rfl,hw⟩;replace hw:=hw.symm;subst hw);refine jA (by kernel_rfl) (by kernel_rfl) ?_;repeat (go_big_quiet_step (first|(go_at_call 241;exact jB (u.out _))|(go_at_call 214;exact tA (RQ b a _ _ A.out (s.out.later (oA.h _)) D.out.2))))
  refine wpQuiet_nil ?_;rintro _ ⟨y,rfl⟩;have t:Hid _:=pA f.out y.h;go_wp2;refine bodyPost_ret (v:=.tuple #[.string ((d.extract 8 d.size).extract 0 N),.bool ((kH ((d.extract 8 d.size).extract 0 N):Int)==(K:Int))]) (by simp[results,results224,go_sem]) rfl ⟨⟨_,?_,fun _=>z.out⟩,t.out⟩;have e:(((kH ((d.extract 8 d.size).extract 0 N):Nat):Int)==(K:Int))=frB d:=by
   rw[z.out];by_cases B:K=kH (d.extract 8 (8+N))
   ·rw[aNf (m.out.2 B),B];simp
   ·rw[ie (fun h=>B (m.out.1 h))];simp;omega
  rw[e]
 ·have E:Hid (¬nH d):=fun j=>h ⟨j.2.1,j.2.2.1,j.2.2.2.1⟩;have l:(!uA (xB d) 1 60000)=true\/(!uA (xB d) 1 60000)=false/\((d.size-8:Nat):Int)<(xB d:Int):=by
   simp only[uA];by_cases I:(1:Int)<=(xB d:Int)<;>by_cases J:((xB d:Nat):Int)<=60000<;>simp[I,J]<;>omega
  generalize uA (xB d) 1 60000=F at *;generalize xB d=N at *;go_enter func224,ntmps224;go_wp2_with fail;refine jA (by kernel_rfl) (by kernel_rfl) ?_;repeat (go_big_quiet_step ((go_at_call 241;exact jB (n.out _))))
  refine wpQuiet_nil ?_;rintro _ ⟨x,rfl⟩;have f:Hid _:=x.h;generalize x.w'=H at *;rcases l with o|⟨o,C⟩
  ·have k:F=false:=by simpa using o
   subst k;clear o;go_wp2_with(go_at_call 259;refine(r.out _).mono ?_;rintro e c ⟨rfl,hw⟩;replace hw:=hw.symm;subst hw);refine bodyPost_ret (v:=.tuple #[.string ByteArray.empty,.bool false]) (by simp[results,results224,go_sem];rfl) rfl ⟨⟨ByteArray.empty,by rw[ie E.out],fun h=>absurd h E.out⟩,f.out⟩
  ·have k:F=true:=by simpa using o
   subst k;clear o;go_wp2_with(go_at_call 259;refine(r.out _).mono ?_;rintro e c ⟨rfl,hw⟩;replace hw:=hw.symm;subst hw);refine bodyPost_ret (v:=.tuple #[.string ByteArray.empty,.bool false]) (by simp[results,results224,go_sem];rfl) rfl ⟨⟨ByteArray.empty,by rw[ie E.out],fun h=>absurd h E.out⟩,f.out⟩
def eM (c:nB) (d:Int) (b:List eA) (a key:ByteArray):List eA×Nat:=
 if (kC a&&aJ key)=false then(b,5)
 else if (zB (·.s) key (dB b a).s9).isSome=true then(qA (·.name) (kI (dB b a) key d) b,1)
 else if (if (dB b a).l9 = -1 then c.tl else(dB b a).l9)<=((dB b a).s9.length:Nat)\/((zB (·.name) a b).isNone&&decide (10000<=b.length))=true then(b,3)
 else if aG (dB b a).m9 (tC key) c.ml<=(pH tC (dB b a).s9 (tC key):Nat) then(b,4)
 else(qA (·.name) (kI (dB b a) key d) b,2)
theorem aDq {d c:Int} {a:List eA} (h:yM d c a=true) {name:ByteArray}: -1<=(dB a name).l9/\(dB a name).l9<=1000000:=by
 rcases aP (ts:=a) (name:=name) with⟨b,_⟩|⟨b,_⟩
 ·have:=iI h _ b;simp only[kP,Na]at this;exact qK this.1.1.1.2
 ·rw[b];exact⟨by simp,by simp⟩
theorem aJq {c:nB} {d:Int} {b:List eA} (h:iB c d b=true) (a key:ByteArray):GN c d b a key=(d,(eM c d b a key).1,(eM c d b a key).2):=by
 obtain⟨_,_,_,l,m⟩:=jI h;unfold GN eM;rw[Ca (by rw[h];simp)];by_cases e:(kC a&&aJ key)=false
 ·rw[Ga e,Ga e]
 ·rw[Ca e,Ca e];by_cases g:(zB (·.s) key (dB b a).s9).isSome=true
  ·rw[Ga g,Ga g]
  ·rw[Ca g,Ca g];have n:(tC key).toList.isEmpty=false:=by
    have:(kC a&&aJ key)=true:=by simpa using e
    simp only[Na,aJ]at this;simpa using this.2
   have i:lF c (dB b a) ByteArray.empty=((((dB b a).s9.length:Nat):Int),if (dB b a).l9 = -1 then c.tl else(dB b a).l9):=by
    unfold lF;rw[Ga (show ByteArray.empty.toList.isEmpty=true by rw[ByteArray.toList_eq];rfl)];have:=(aDq m (name:=a)).1;by_cases k:(dB b a).l9 = -1
    ·rw[Ga k,Ga (by omega)]
    ·rw[Ca k,Ca (by omega)]
   have j:lF c (dB b a) (tC key)=(((pH tC (dB b a).s9 (tC key):Nat):Int),aG (dB b a).m9 (tC key) c.ml):=by
    unfold lF;rw[Ca (by rw[n];simp)]
   have bA:=vh m (name:=a);rw[i,j];simp only;have f:(bE (dB b a)=true/\b.length=10000) ↔ ((zB (·.name) a b).isNone&&decide (10000<=b.length))=true:=by
    rw[bA,Na,Ya];cases zB (·.name) a b with
    |none=>simp;omega
    |some q=>simp
   simp only[f];generalize (if (dB b a).l9 = -1 then c.tl else(dB b a).l9)=o;split
   ·rfl
   ·split<;>rfl
theorem qm {met:ByteArray->ByteArray} {l l':List fA} (h:l.map (·.s)=l'.map (·.s)) (m:ByteArray):pH met l m=pH met l' m:=by
 have:∀l:List fA,pH met l m=((l.map (·.s)).filter fun s=>(met s).toList==m.toList).length:=fun l=>by
  unfold pH;rw[List.filter_map,Ua];rfl
 rw[this,this,h]
def fH (b a:Int) (left:ByteArray->Bool) (c:List eA):List eA:=(c.map fun t=>if left t.name=true then t else xD b a t).filter fun t=>left t.name||!bE t
theorem QK {win now:Int} {left:ByteArray->Bool} (t:eA):(if left t.name=true then t else xD win now t).name=t.name:=by split<;>rfl
theorem aCc {b a:Int} {left:ByteArray->Bool} {c:List eA} (h:∀t∈c,left t.name=true):fH b a left c=c:=by
 have e:c.map (fun t=>if left t.name=true then t else xD b a t)=c:=by
  have:∀t∈c,(if left t.name=true then t else xD b a t)=id t:=fun t d=>by rw[Ga (h t d)];rfl
  rw[Se this,List.map_id]
 unfold fH;rw[e];exact Cc.2 fun t d=>by rw[h t d];rfl
theorem tt {b a:Int} {left:ByteArray->Bool} {c:List eA} (h:∀n,left n=false):fH b a left c=sC b a c:=by
 unfold fH sC;simp only[h,Rf,Gd,Hg]
theorem mN {b a:Int} {left:ByteArray->Bool} {p:eA} {r:List eA}:fH b a left (p::r)=if (left p.name||!bE (if left p.name=true then p else xD b a p))=true then(if left p.name=true then p else xD b a p):: fH b a left r else fH b a left r:=by
 unfold fH;rw[Sb,Ce,QK]
theorem WB {b a:Int} {left:ByteArray->Bool} {c:List eA} {q:eA} (h:q∈fH b a left c):∃t∈c,q=(if left t.name=true then t else xD b a t)/\q.name=t.name:=by
 have:=(Ed.1 h).1;obtain⟨t,d,rfl⟩:=Uc.1 this;exact⟨t,d,rfl,QK t⟩
theorem lh {c b:Int} {left a:ByteArray->Bool} {d:List eA} (h:∀t∈d,left t.name=a t.name):fH c b left d=fH c b a d:=by
 induction d with
 |nil=>rfl
 |cons p r f=>
  rw[mN,mN,f fun t e=>h t (Za _ e),h p (Lb ..)]
theorem tv {b a:Int} {left c:ByteArray->Bool} {j:List eA} (v:vB (·.name) j) {t:eA} (o:t∈j) (C:left t.name=true) (k:∀n,c n=(left n&&!(n.toList==t.name.toList))):
 fH b a c j=if bE (xD b a t)=true then tD (·.name) t.name (fH b a left j) else qA (·.name) (xD b a t) (fH b a left j):=by
 induction j with
 |nil=>cases o
 |cons p r E=>
  have i:c t.name=false:=by rw[k,(xC t.name t.name).2 rfl];simp
  have f:∀n,n≠t.name->c n=left n:=fun n g=>by rw[k,mC g];simp
  rcases Cb.1 o with rfl|o
  ·have h:fH b a c r=fH b a left r:=lh fun q m=>f q.name (fun e=>bH (v.head q m) e.symm);have g:∀q∈fH b a left r,q.name≠t.name:=fun q m=>by
    obtain⟨s,D,_,e⟩:=WB m;rw[e];exact fun B=>bH (v.head s D) B.symm
   rw[mN,mN,i,C,h];simp only[Gd,Hg,Rf,Lf,Bool.true_or];by_cases d:bE (xD b a t)=true
   ·rw[Ga d,d];have z:tD (·.name) t.name (fH b a left r)=fH b a left r:=Cc.2 fun q m=>by rw[mC (g q m)];rfl
    unfold tD at z |-
    rw[Jc (by simp),z];simp
   ·have w:bE (xD b a t)=false:=by simpa using d
    rw[Ca d,w,Ga (by rfl),qA,Ca (by show ¬uH t.name t.name=true;rw[fN];simp),Ga (by exact(xC t.name t.name).2 rfl)]
  ·have y:=v.head t o;have l:=bH y;have x:=E v.tail o;rw[mN,mN,f p.name l,x];by_cases u:(left p.name||!bE (if left p.name=true then p else xD b a p))=true
   ·rw[Ga u,Ga u];have A:=QK (win:=b) (now:=a) (left:=left) p;generalize (if left p.name=true then p else xD b a p)=q at *;by_cases d:bE (xD b a t)=true
    ·rw[Ga d,Ga d];unfold tD;rw[Ec (by show(!(q.name.toList==t.name.toList))=true;rw[A,mC l];rfl)]
    ·rw[Ca d,Ca d,qA,Ga (by show uH q.name t.name=true;rw[A];exact y)]
   ·rw[Ca u,Ca u]
def fJ (c b:Int) (d:List eA) (a:Int):Int×List eA×Bool:=if a<1\/1000000000000-b<a then(b,d,false) else(b+a,sC c (b+a) d,true)
theorem aJb {c:nB} {a:Int} {d:List eA} (h:iB c a d=true) (b:Int):RZ c a d b=fJ c.w a d b:=by
 unfold RZ fJ;rw[Ca (by rw[h];simp)]
theorem aBg {b a u:Int} {t:eA} {c:List fA} (h:u=a-b) (f:c.filter (fun p=>decide (u<p.n))=t.s9.filter (fun p=>decide (u<p.n))) (d:∀p∈c,u<p.n):xD b a t=⟨t.name,t.l9,t.m9,c⟩:=by
 unfold xD;have e:(fun p:fA=>decide (a-p.n<b))=fun p=>decide (u<p.n):=by
  funext p;rw[decide_eq_decide];omega
 rw[e,<-f,Cc.2 fun p g=>Rb (d p g)]
theorem OB {α:Type} {key:α->ByteArray} {l:List α} (b:vB key l) {a:α} (h:a∈l):(a::tD key (key a) l).Perm l:=by
 induction l with
 |nil=>cases h
 |cons p r c=>
  unfold tD at c |-
  rcases Cb.1 h with rfl|h
  ·rw[Jc (by simp)];have:r.filter (fun q=>!((key q).toList==(key a).toList))=r:=Cc.2 fun q d=>by rw[mC (fun e=>bH (b.head q d) e.symm)];rfl
   rw[this]
  ·rw[Ec (by rw[mC (bH (b.head a h))];rfl)];exact(List.Perm.swap _ _ _).trans ((c b.tail h).cons p)
theorem ft {met:ByteArray->ByteArray} {l:List fA} (a:vB (·.s) l) {p:fA} (h:p∈l) (m:ByteArray):pH met l m=pH met (tD (·.s) p.s l) m+if met p.s=m then 1 else 0:=by
 rw[<-UO];exact UP (OB a h).symm m
theorem NH {f:Nat->Bool} {n:Nat} (h:∀k,k<n->f k=true):vH f n=true:=by
 induction n with
 |zero=>rfl
 |succ n a=>rw[lJ,a fun k b=>h k (by omega),h n (by omega)];rfl
theorem RD {l:List fA} (b:vB (·.s) l) {k:Nat} (a:k<l.length):yJ l k=true:=by
 cases k with
 |zero=>rfl
 |succ k=>
  rw[iR (by omega) a];have:=Sc.1 b k (k+1) (by omega) a (by omega);simpa using this
theorem uq {l:List eA} (b:vB (·.name) l) {k:Nat} (a:k<l.length):zL l k=true:=by
 cases k with
 |zero=>rfl
 |succ k=>
  rw[lU (by omega) a];have:=Sc.1 b k (k+1) (by omega) a (by omega);simpa using this
theorem lg {b:List fA} (c:vB (·.s) b) (h:∀m∈b,lE m.s=true/\uA m.n 0 1000000=true):yL b=true:=NH fun k a=>by
 rw[mX a,RD c a,(h _ (Db a)).1,(h _ (Db a)).2];rfl
theorem nj {b a:Int} {d:List fA} (i:vB (·.s) d) (h:∀x∈d,aJ x.s=true/\uA x.n 0 a=true/\a-x.n<b):aL b a d=true:=NH fun k c=>by
 obtain⟨e,f,g⟩:=h _ (Db c);rw[pU c,RD i c,e,f,Rb g];rfl
theorem RU {b a:Int} {d:List eA} (e:vB (·.name) d) (h:∀t∈d,kP b a t=true):yM b a d=true:=NH fun k c=>by
 rw[tU c,uq e c,h _ (Db c)];rfl
theorem qU {c:nB} {a:Int} {b:List eA} (d:vF c=true) (e:uA a 0 1000000000000=true) (f:b.length<=10000) (g:yM c.w a b=true):iB c a b=true:=by
 unfold iB;rw[d,e,g,Rb f];rfl
theorem aLd {a:List fA} (h:yL a=true):(∀m∈a,lE m.s=true/\uA m.n 0 1000000=true)/\vB (·.s) a:=by
 refine⟨fun m c=>?_,?_⟩
 ·obtain⟨i,b,rfl⟩:=Gb c;have:=qO h b;rw[mX b]at this;simp only[Na]at this;exact⟨this.1.2,this.2⟩
 ·have:=II (n:=a.length) h (Da _);rwa [Qb]at this
theorem nk {b a:Int} {c:List fA} (h:aL b a c=true):(∀x∈c,aJ x.s=true/\uA x.n 0 a=true/\a-x.n<b)/\vB (·.s) c:=by
 refine⟨fun x e=>?_,?_⟩
 ·obtain⟨i,d,rfl⟩:=Gb e;have:=qO h d;rw[pU d]at this;simp only[Na,Ya]at this;exact⟨this.1.1.2,this.1.2,this.2⟩
 ·have:=IY (n:=c.length) h (Da _);rwa [Qb]at this
theorem ow {b a:Int} {t:eA} (h:kP b a t=true):kC t.name=true/\uA t.l9 (-1) 1000000=true/\yL t.m9=true/\aL b a t.s9=true/\bE t=false:=by
 simp only[kP,Na]at h;obtain⟨⟨⟨⟨c,g⟩,d⟩,e⟩,f⟩:=h;exact⟨c,g,d,e,by simpa using f⟩
theorem da {b a:Int} {t:eA} (c:kC t.name=true) (d:uA t.l9 (-1) 1000000=true) (e:yL t.m9=true) (f:aL b a t.s9=true) (g:bE t=false):kP b a t=true:=by
 unfold kP;rw[c,d,e,f,g];rfl
theorem GR {n a b:Int} (c:a<=n) (d:n<=b):uA n a b=true:=by
 unfold uA;rw[Rb c,Rb d];rfl
theorem yu {c:nB} (h:vF c=true):1<=c.w/\c.w<=1000000000:=by
 simp only[vF,Na]at h;exact qK h.1.1.1.1.1
theorem LH {c b:Int} {a:List eA} (h:yM c b a=true) {name:ByteArray}:uA (dB a name).l9 (-1) 1000000=true/\yL (dB a name).m9=true/\aL c b (dB a name).s9=true:=by
 rcases aP (ts:=a) (name:=name) with⟨d,_⟩|⟨d,_⟩
 ·obtain⟨_,e,f,g,_⟩:=ow (iI h _ d);exact⟨e,f,g⟩
 ·rw[d];exact⟨rfl,rfl,rfl⟩
theorem ZN {b:List eA} {t:eA} (d:vB (·.name) b) (e:b.length<=10000) (h:((zB (·.name) t.name b).isNone&&decide (10000<=b.length))=false):(qA (·.name) t b).length<=10000:=by
 have c:=DF (a:=t) d;cases hg:zB (·.name) t.name b with
 |some q=>simp only[hg,Vf,Lf]at c;omega
 |none=>
  rw[hg]at h;simp only[hg,Wf,Gd,Hg]at c;simp only[Option.isNone_none,Nc,Ve]at h;omega
theorem PJ {b a:Int} {d:List eA} {t:eA} (h:yM b a d=true) (e:kP b a t=true):yM b a (qA (·.name) t d)=true:=
 RU (dI (rS h)) fun q c=>by
  rcases tI c with rfl|c
  ·exact e
  ·exact iI h q c
theorem vp {c:nB} {b:Int} {d:List eA} (f:iB c b d=true) {a key:ByteArray} (e:(kC a&&aJ key)=true):kP c.w b (kI (dB d a) key b)=true:=by
 obtain⟨i,h,p,q,j⟩:=jI f;obtain⟨k,l,m⟩:=LH j (name:=a);obtain⟨n,o⟩:=nk m;rw[Na]at e;refine da (by show kC (dB d a).name=true;rw[eH];exact e.1) k l ?_ UE;refine nj (dI o) fun x g=>?_;rcases tI (show x∈qA (·.s) ⟨key,b⟩ (dB d a).s9 from g) with rfl|g
 ·exact⟨e.2,GR h (Pd _),by have:=(yu i).1;show b-b<_;omega⟩
 ·exact n x g
theorem aJr {c:nB} {d:Int} {b:List eA} (f:iB c d b=true) {a key:ByteArray} (g:(eM c d b a key).2=1\/(eM c d b a key).2=2):iB c d (eM c d b a key).1=true:=by
 obtain⟨p,v,w,r,m⟩:=jI f;have o:=GR v w;have t:=rS m;have i:(kI (dB b a) key d).name=a:=eH;unfold eM at g |-
 by_cases k:(kC a&&aJ key)=false
 ·rw[Ga k]at g;omega
 rw[Ca k]at g |-
 have h:(kC a&&aJ key)=true:=by simpa using k
 by_cases j:(zB (·.s) key (dB b a).s9).isSome=true
 ·rw[Ga j];refine qU p o (ZN t r ?_) (PJ m (vp f h));rw[i];rcases aP (ts:=b) (name:=a) with⟨_,u⟩|⟨e,_⟩
  ·cases hg:zB (·.name) a b with
   |none=>rw[hg]at u;cases u
   |some q=>rfl
  ·rw[e]at j;cases j
 rw[Ca j]at g |-
 by_cases l:(if (dB b a).l9 = -1 then c.tl else(dB b a).l9)<=((dB b a).s9.length:Nat)\/((zB (·.name) a b).isNone&&decide (10000<=b.length))=true
 ·rw[Ga l]at g;omega
 rw[Ca l]at g |-
 by_cases n:aG (dB b a).m9 (tC key) c.ml<=(pH tC (dB b a).s9 (tC key):Nat)
 ·rw[Ga n]at g;omega
 rw[Ca n];refine qU p o (ZN t r ?_) (PJ m (vp f h));rw[i];cases hd:((zB (·.name) a b).isNone&&decide (10000<=b.length)) with
 |false=>rfl
 |true=>exact absurd (Ea hd) l
theorem aMi {c:nB} {k:Int} {g:List eA} (f:iB c k g=true) {a b:ByteArray} {d:Int}:iB c k (oR g a b d).1=true:=by
 obtain⟨v,C,D,w,l⟩:=jI f;have u:=GR C D;have y:=rS l;obtain⟨E,z,F⟩:=LH l (name:=a);obtain⟨A,B⟩:=aLd z;unfold oR;by_cases n:(kC a&&(b.toList.isEmpty||lE b) &&uA d (-1) 1000000)=false
 ·rw[Ga n];exact f
 rw[Ca n];have e:=(Bool.not_eq_false _).mp n;simp only[Na]at e;by_cases o:bE (jG (dB g a) b d)=true
 ·rw[Ga o];refine qU v u (Ma (Tb _ _) w) (RU (iN y) fun t s=>iI l t (gQ.1 s).1)
 rw[Ca o];by_cases p:((zB (·.name) a g).isNone&&decide (10000<=g.length))=true
 ·rw[Ga p];exact f
 rw[Ca p];have j:(jG (dB g a) b d).name=a:=by rw[dU,eH]
 refine qU v u (ZN y w (by rw[j];simpa using p)) (PJ l ?_);refine da (by rw[j];exact e.1.1) ?_ ?_ (by rw[VT];exact F) (by simpa using o)
 ·unfold jG;split
  ·exact e.2
  ·exact E
 ·unfold jG;split
  ·exact z
  ·rename_i q;have r:lE b=true:=by
    have:=e.1.2;rw[Bd]at this;rcases this with h|h
    ·exact absurd h q
    ·exact h
   simp only;split
   ·exact lg (iN B) fun m i=>A m (gQ.1 i).1
   ·rename_i x;refine lg (dI B) fun m i=>?_;rcases tI i with rfl|i
    ·have:=qK e.2;exact⟨r,GR (by show 0<=d;omega) this.2⟩
    ·exact A m i
theorem aJc {c:nB} {a:Int} {d:List eA} (e:iB c a d=true) {b:Int}:iB c (fJ c.w a d b).1 (fJ c.w a d b).2.1=true:=by
 obtain⟨k,D,E,l,h⟩:=jI e;have n:=rS h;unfold fJ;split
 ·exact e
 ·rename_i F;have f:(sC c.w (a+b) d).length<=d.length:=by
   unfold sC;have:=Tb (fun t=>!bE t) (d.map (xD c.w (a+b)));rw[Ua]at this;exact this
  refine qU k (GR (by omega) (by omega)) (Ma f l) (RU ?_ fun t g=>?_)
  ·exact Pe _ (Zd.2 n)
  ·obtain⟨i,j⟩:=Ed.1 g;obtain⟨q,m,rfl⟩:=Uc.1 i;obtain⟨p,r,s,u,_⟩:=ow (iI h q m);obtain⟨v,y⟩:=nk u;refine da p r s (nj (Pe _ y) fun x o=>?_) (by simpa using j);obtain⟨z,A⟩:=Ed.1 o;obtain⟨B,C,_⟩:=v x z;have:=qK C;exact⟨B,GR this.1 (by omega),by simpa using A⟩
def cE (c:nB) (a:Int) (b:List eA) (r:dE):Int×List eA×Bool:=
 if r.kind=1 then(a,(eM c a b r.n9 r.text).1,decide ((eM c a b r.n9 r.text).2=1) ||decide ((eM c a b r.n9 r.text).2=2))
 else if r.kind=2 then fJ c.w a b r.num
 else if r.kind=3 then(a,(oR b r.n9 r.text r.num).1,(oR b r.n9 r.text r.num).2)
 else(a,b,false)
def xE (c:nB):Int->List eA->List dE->Int×List eA×Bool
 |a,b,[]=>(a,b,true)
 |a,b,r::rs=>if (cE c a b r).2.2=true then xE c (cE c a b r).1 (cE c a b r).2.1 rs else((cE c a b r).1,(cE c a b r).2.1,false)
def wZ (c:nB) (a:Int) (b:List eA) (d:List dE):Int×List eA×Bool:=
 if iB c a b=false then(0,[],false) else if 500<d.length then(a,b,false) else if (xE c a b d).2.2=true then xE c a b d else(a,b,false)
theorem FK {c:nB} {a:Int} {d:List eA} (h:iB c a d=true) {r:dE} (b:(cE c a d r).2.2=true):iB c (cE c a d r).1 (cE c a d r).2.1=true:=by
 unfold cE at b |-
 split
 ·rename_i e;rw[Ga e]at b;simp only[Bd,Ya]at b;exact aJr h b
 ·rename_i e;rw[Ca e]at b;split
  ·exact aJc h
  ·rename_i f;rw[Ca f]at b;split
   ·exact aMi h
   ·exact h
theorem EH {p:fA} (l:List fA):wC (qA (·.s) p l)<=wC l+p.s.size/\(qA (·.s) p l).length<=l.length+1:=by
 induction l with
 |nil=>simp[qA,wC]
 |cons q r a=>
  rw[qA];split
  ·simp only[wC,Sa];omega
  ·split<;>(simp only[wC,Sa];omega)
theorem jW (f:fA->Bool) (l:List fA):wC (l.filter f)<=wC l/\(l.filter f).length<=l.length:=by
 induction l with
 |nil=>exact⟨Da _,Da _⟩
 |cons q r a=>
  rw[Ce];split<;>(simp only[wC,Sa];omega)
theorem lP (f:eA->Bool) (l:List eA):nA (l.filter f)<=nA l/\(l.filter f).length<=l.length:=by
 induction l with
 |nil=>exact⟨Da _,Da _⟩
 |cons q r a=>
  rw[Ce];split<;>(simp only[nA,Sa];omega)
theorem FQ {a:List eA} (f:vB (·.name) a) {t:eA} {k:Nat} (h:jE t<=jE (dB a t.name)+k):(qA (·.name) t a).length+nA (qA (·.name) t a)<=a.length+nA a+1+t.name.size+k:=by
 have g:jE ⟨t.name,-1,[],[]⟩=t.name.size:=by simp[jE,wC]
 have key:(∃q∈a,q.name=t.name/\jE t<=jE q+k)\/(jE t<=t.name.size+k):=by
  rcases aP (ts:=a) (name:=t.name) with⟨m,_⟩|⟨e,_⟩
  ·exact Ba ⟨_,m,eH,h⟩
  ·rw[e,g]at h;exact Ea h
 clear h g;rcases key with⟨q,c,d,j⟩|j
 ·have:(qA (·.name) t a).length+nA (qA (·.name) t a)<=a.length+nA a+k:=by
   induction a with
   |nil=>cases c
   |cons p r i=>
    rw[qA];rcases Cb.1 c with rfl|c
    ·rw[Ca (by rw[d,fN];simp),Ga ((xC _ _).2 d)];simp only[Sa,nA];omega
    ·have b:=f.head q c;simp only[d]at b;rw[Ga b];have:=i f.tail c;simp only[Sa,nA];omega
  omega
 ·have:∀l:List eA,(qA (·.name) t l).length+nA (qA (·.name) t l)<=l.length+nA l+1+jE t:=fun l=>by
   induction l with
   |nil=>simp[qA,nA]
   |cons p r i=>
    rw[qA];split
    ·simp only[Sa,nA];omega
    ·split<;>(simp only[Sa,nA];omega)
  have:=this a;omega
theorem za {c:List eA} {a key:ByteArray} {b:Int}:jE (kI (dB c a) key b)<=jE (dB c (kI (dB c a) key b).name)+(1+key.size):=by
 have e:(kI (dB c a) key b).name=a:=eH;rw[e];have:=EH (p:=⟨key,b⟩) (dB c a).s9;simp only[jE,kI]at this |-
 omega
theorem aBp {d:List eA} {a b:ByteArray} {c:Int}:jE (jG (dB d a) b c)<=jE (dB d (jG (dB d a) b c).name)+(1+b.size):=by
 have e:(jG (dB d a) b c).name=a:=by rw[dU,eH]
 rw[e];have f:=EH (p:=⟨b,c⟩) (dB d a).m9;have g:wC (tD (·.s) b (dB d a).m9)<=wC (dB d a).m9/\(tD (·.s) b (dB d a).m9).length<=(dB d a).m9.length:=jW _ _;simp only at f;unfold jG;split
 ·simp only[jE];omega
 ·simp only[jE];split<;>omega
theorem aBh {win now:Int} (a:List eA):(sC win now a).length+nA (sC win now a)<=a.length+nA a:=by
 have c:=lP (fun t=>!bE t) (a.map (xD win now));have e:nA (a.map (xD win now))<=nA a:=by
  induction a with
  |nil=>exact Da _
  |cons t r d=>
   have:=jW (fun p=>decide (now-p.n<win)) t.s9;have b:=d (lP _ _);simp only[Sb,nA,jE,xD]at b |-
   omega
 unfold sC;rw[Ua]at c;omega
theorem BQ {c:nB} {b:Int} {a:List eA} (h:iB c b a=true) (r:dE):(cE c b a r).2.1.length+nA (cE c b a r).2.1<=a.length+nA a+2+r.n9.size+r.text.size:=by
 have g:=rS (jI h).2.2.2.2;have d:a.length+nA a<=a.length+nA a+2+r.n9.size+r.text.size:=by omega
 have f:(qA (·.name) (kI (dB a r.n9) r.text b) a).length+nA (qA (·.name) (kI (dB a r.n9) r.text b) a)<=a.length+nA a+2+r.n9.size+r.text.size:=by
  have:=FQ g (t:=kI (dB a r.n9) r.text b) za;have e:(kI (dB a r.n9) r.text b).name=r.n9:=eH;rw[e]at this;omega
 have i:(qA (·.name) (jG (dB a r.n9) r.text r.num) a).length+nA (qA (·.name) (jG (dB a r.n9) r.text r.num) a)<=a.length+nA a+2+r.n9.size+r.text.size:=by
  have:=FQ g (t:=jG (dB a r.n9) r.text r.num) aBp;have e:(jG (dB a r.n9) r.text r.num).name=r.n9:=by rw[dU,eH]
  rw[e]at this;omega
 unfold cE;split
 ·unfold eM;split
  ·exact d
  ·split
   ·exact f
   ·generalize (if (dB a r.n9).l9 = -1 then c.tl else(dB a r.n9).l9)=j;split
    ·exact d
    ·split
     ·exact d
     ·exact f
 ·split
  ·unfold fJ;split
   ·exact d
   ·have:=aBh (win:=c.w) (now:=b+r.num) a;show(sC c.w (b+r.num) a).length+nA (sC c.w (b+r.num) a)<=_;omega
  ·split
   ·unfold oR;split
    ·exact d
    ·split
     ·have:=lP (fun p=>!((fun q:eA=>q.name) p).toList==r.n9.toList) a;show(tD (·.name) r.n9 a).length+nA (tD (·.name) r.n9 a)<=_;unfold tD;omega
     ·split
      ·exact d
      ·exact i
   ·exact d
section
open Go.Maps Go.Sort
theorem kt {x y:ByteArray} (h:uH x y=true):x.data.toList<=y.data.toList:=by
 unfold uH at h;rw[bytesLess_eq,Ze,ByteArray.toList_eq,ByteArray.toList_eq]at h;exact List.le_of_lt h
theorem JA {α:Type} {key:α->ByteArray} {L:List α} (j:vB key L) {ss:List (List UInt8)} (i:ss.Perm (L.map fun p=>(key p).data.toList)):
 (ss.mergeSort (fun x y=>decide (x<=y)))=L.map fun p=>(key p).data.toList:=by
 have e:=(List.mergeSort_perm ss (fun x y=>decide (x<=y))).trans i;have f:(ss.mergeSort (fun x y=>decide (x<=y))).Pairwise (fun a b=>a<=b):=by
  have:=List.pairwise_mergeSort (le:=fun(x y:List UInt8)=>decide (x<=y)) (fun a b c h d=>by simp only[Ze]at *;exact List.le_trans h d) (fun a b=>by simp only[Bd,Ze];exact List.le_total a b) ss;simpa using this
 have g:(L.map fun p=>(key p).data.toList).Pairwise (fun a b=>a<=b):=Zd.2 (j.imp fun h=>kt h);exact Qf (le:=fun a b=>a<=b) (fun a b _ _ h d=>List.le_antisymm h d) f g e
theorem OI {α:Type} (key:α->ByteArray) (L:List α):(L.map fun p=>(key p).data.toList).map encStr=L.map fun p=>Value.string (key p):=by
 rw[Wd];exact Se fun p _=>by simp[encStr]
theorem ER {w:World} {B d:Nat} {e:TypeId} {a:Nat} {v:Value} {n:Nat} {f:List Value} (h:w.ownsRow B e a v n f) (l:d<=B):w.ownsRow d e a v n f:=by
 refine⟨h.1,?_⟩;rcases h.2 with i|⟨g,b,c,j,k,r⟩
 ·exact Ba i
 ·exact Ea ⟨g,b,c,j,Ma l k,r⟩
theorem aFt (x:Nat) (t:eA) (S:Nat->Prop) (M:Nat) (w:World) (h:lC w S x t M) (z:t.s9.length<=1000000000):
 Calls prog 114 #[.pointer (some ⟨x,0,none⟩)] w fun e c=>∃v,e=.returned v/\c.ownsRow w.heap.size 9 1 v t.s9.length (t.s9.map fun p=>.string p.s)/\Below w.heap.size w c:=by
 obtain⟨C,d,y,B,Q,A,D,h⟩:=h;have u:w.cell? ⟨x,2,none⟩=some (.map (some d)):=h.blk.cell 2;have j:Q.length=t.s9.length:=by rw[<-h.q1,Ua]
 have b:Maps.size (oC (Q.map fun q=>(q.1.s,eE q.2)))=t.s9.length:=by rw[fL,j]
 have l:Hid (Calls prog 153 #[.map (some d)] w fun e c=>e=.returned (.func (.func 202) #[] #[.pointer (some ⟨w.heap.size,0,none⟩)])/\c=w.alloc (.cells #[.map (some d)] 182)):=callsIn_wide.1 (maps_Keys_153 (some d) w);have n:Hid (Calls prog 69 #[.func (.func 202) #[] #[.pointer (some ⟨w.heap.size,0,none⟩)]] (w.alloc (.cells #[.map (some d)] 182)) fun e c=>∃v,e=.returned v/\c.ownsRow w.heap.size 9 1 v t.s9.length (t.s9.map fun p=>.string p.s)/\Below w.heap.size w c):=by
  refine Calls.mono (callsIn_wide.1 (slices_Sorted_keys_69_153 d _ _ kD w h.s9 (by rw[b];unfold maxLen;omega) (by rw[b];omega))) ?_;rintro e r ⟨v,ss,rfl,i,a,_,g⟩;have o:(strKeys (oC (Q.map fun q=>(q.1.s,eE q.2))))=t.s9.map fun p=>p.s.data.toList:=by
   rw[jT,Wd,<-h.q1,Wd];rfl
  rw[o]at i;have f:ss.length=t.s9.length:=by rw[i.length_eq,Ua]
  rw[JA (key:=fun p:fA=>p.s) h.rs i,OI (fun p:fA=>p.s),f]at a;exact⟨v,rfl,ER a (by simp),pA (cA _ _) g⟩
 clear h j b;go_enter func114,ntmps114;go_wp2_with fail;refine l.out.mono ?_;rintro e r ⟨rfl,rfl⟩;go_wp2_with fail;refine n.out.mono ?_;rintro e E ⟨v,rfl,a,g⟩;have m:=bA a;have k:=bA g;clear a g;go_wp2;go_ret;exact⟨v,rfl,m.out,k.out⟩
end
theorem aEh {s:ByteArray} {k:Nat} (b:k<=6) (h:(zC s 4 6).all zI=true):(zC s 4 k).all zI=true:=by
 rw[Vd]at h |-
 intro x a;refine h x ?_;have e:zC s 4 k=(zC s 4 6).take k:=by rw[zC,zC,List.take_take,Nat.min_eq_left b]
 rw[e]at a;exact Xd a
theorem pq:(⟨#[119,97,108,45]⟩:ByteArray).toList=[119,97,108,45]:=by rw[ByteArray.toList_eq]
theorem TQ (s:ByteArray) (w:World) (A:s.size<=maxLen):
 Calls prog 49 #[.string s] w fun e F=>e=.returned (.int .i64 (mE s:Nat))/\F=w:=by
 unfold maxLen at A;by_cases d:s.size=10
 ·have g:((s.size:Int) != 10)=false:=by simp[d]
  have B:s.size<=10/\10<=s.size:=by omega
  obtain⟨C,D⟩:=B;by_cases b:s.extract 0 4=⟨#[119,97,108,45]⟩
  ·have j:((s.extract 0 4).toList==[119,97,108,45])=true:=by rw[b,pq];rfl
   have E:Hid (mE s=if (zC s 4 6).all zI=true then tQ (zC s 4 6) else 0):=by show _=_;unfold mE;simp[d,b]
   clear d b;go_enter func49,ntmps49;go_wp2;go_loop [3,4] (fun v i=>∃(m V:Nat),m<=6/\i=.int .i64 ((4+m:Nat):Int)/\v=.int .i64 V/\V<10 ^ m/\Hid (V=tQ (zC s 4 m)/\(zC s 4 m).all zI=true)) (fun _ i=>10-(intOf i).toNat)
   case atStart=>exact⟨0,0,by omega,rfl,rfl,by simp,⟨rfl,rfl⟩⟩
   case round=>
    obtain⟨m,V,y,rfl,rfl,p,f⟩:=hrel;have q:V<1000000:=Ab p (Zb (n:=10) (by omega) y);by_cases x:m<6
    ·have u:4+m<s.size:=by omega
     have G:s[4+m].toNat<256:=s[4+m].toNat_lt;have a:Hid _:=BK u;have c:Hid (¬(48<=s[4+m].toNat/\s[4+m].toNat<=57)->mE s=0):=fun z=>by
      rw[E.out,Ca (fun h=>?_)];have l:=aEh (k:=m+1) (by omega) h;rw[a.out,List.all_append]at l;simp[zI]at l;omega
     by_cases r:(s[4+m].toNat:Int)<48
     ·go_wp2;go_ret;exact⟨iC (by rw[c.out (by omega)];rfl),rfl⟩
     ·by_cases t:(57:Int)<(s[4+m].toNat:Int)
      ·go_wp2;go_ret;exact⟨iC (by rw[c.out (by omega)];rfl),rfl⟩
      ·go_wp2;have o:=f.out.1;refine⟨⟨m+1,V*10+(s[4+m].toNat-48),by omega,by go_num,?_,?_,?_,?_⟩,by simp[intOf];omega⟩
       ·congr 1;omega
       ·rw[Oc];omega
       ·rw[a.out,zz,<-o]
       ·rw[a.out,List.all_append,f.out.2];simp[zI];omega
    ·go_wp2;go_ret;have e:m=6:=by omega
     subst e;exact⟨iC (by rw[E.out,Ga f.out.2,<-f.out.1]),rfl⟩
  ·have j:((s.extract 0 4).toList==[119,97,108,45])=false:=by
    rw[<-Bool.not_eq_true];intro h;exact b (toList_inj (by rw[pq];simpa using h))
   have E:Hid (mE s=0):=by show _=_;unfold mE;rw[Ca (fun h=>b h.2.1)]
   clear d b;go_enter func49,ntmps49;go_wp2;go_ret;exact⟨iC (by rw[E.out];rfl),rfl⟩
 ·have g:((s.size:Int) != 10)=true:=by simp;omega
  have E:Hid (mE s=0):=by show _=_;unfold mE;rw[Ca (fun h=>d h.1)]
  go_enter func49,ntmps49;go_wp2;go_ret;exact⟨iC (by rw[E.out];rfl),rfl⟩
def lL {α:Type} (g:Option Nat->α×Option Nat) (p0:Option Nat):Nat->List α×Option Nat
 |0=>([],p0)
 |k+1=>match (lL g p0 k).2 with
  |none=>lL g p0 k
  |some p=>((lL g p0 k).1++[(g (some p)).1],(g (some p)).2)
section
variable {α:Type} {g:Option Nat→α×Option Nat} {p0:Option Nat} {k p:Nat} {s:ByteArray}
theorem rY (h:(lL g p0 k).2=none):lL g p0 (k+1)=lL g p0 k:=by rw[lL,h]
theorem fS (h:(lL g p0 k).2=some p):lL g p0 (k+1)=((lL g p0 k).1++[(g (some p)).1],(g (some p)).2):=by rw[lL,h]
theorem ZT (h:(lL g p0 k).2=none) {m:Nat} (b:k<=m):lL g p0 m=lL g p0 k:=by
 induction b with
 |refl=>rfl
 |step _ a=>rw[rY (by rw[a];exact h),a]
theorem aBk (k:Nat):(lL g p0 k).1.length<=k:=by
 induction k with
 |zero=>exact Da _
 |succ k a=>
  cases h:(lL g p0 k).2 with
  |none=>rw[rY h];omega
  |some p=>rw[fS h];simp;omega
theorem sd {P:α->Prop} (c:∀p,P (g p).1) (k:Nat):∀i (h:i<(lL g p0 k).1.length),P (lL g p0 k).1[i]:=by
 have:∀x∈(lL g p0 k).1,P x:=by
  induction k with
  |zero=>intro x a;cases a
  |succ k b=>
   cases h:(lL g p0 k).2 with
   |none=>rw[rY h];exact b
   |some p=>
    rw[fS h];intro x a;rcases Ie.1 a with a|a
    ·exact b x a
    ·rw[Uf.1 a];exact c _
 exact fun i h=>this _ (Db h)
theorem aIb {f:Rd->α×Rd} (j:∀r:Rd,r.r9=true->(f r).2.r9=true) (l:∀(r:Rd) p,cW s r p->(f r).2.r9=false->∃q,g (some p)=((f r).1,some q)/\cW s (f r).2 q) {r:Rd} (h:cW s r p) (k:Nat) (a:(MU f r k).2.r9=false):∃q,lL g (some p) k=((MU f r k).1,some q)/\cW s (MU f r k).2 q:=by
 induction k with
 |zero=>exact⟨p,rfl,h⟩
 |succ k m=>
  obtain⟨q,b,c⟩:=m (by
   cases e:(MU f r k).2.r9
   ·rfl
   ·rw[mU j e (Be k)]at a;exact a)
  obtain⟨n,d,i⟩:=l _ _ c a;exact⟨n,by rw[fS (p:=q) (by rw[b]),b,d,MU],i⟩
theorem se {z:α->Nat} {sz:List α->Nat} {n:Nat} (d:sz []=0) (e:∀c x,sz (c++[x])=sz c+z x) (l:∀p q,(g p).2=some q->∃a,p=some a/\a+z (g p).1=q/\q<=n) (k:Nat):∀q,(lL g p0 k).2=some q->∃a,p0=some a/\a+sz (lL g p0 k).1=q/\((∀b,p0=some b->b<=n)->q<=n):=by
 induction k with
 |zero=>intro q h;exact⟨q,h,by rw[lL];simp[d],fun hh=>hh q h⟩
 |succ k m=>
  intro q h;cases hh:(lL g p0 k).2 with
  |none=>rw[rY hh,hh]at h;cases h
  |some p=>
   obtain⟨a,i,o,_⟩:=m p hh;rw[fS hh]at h |-
   obtain⟨b,j,r,f⟩:=l _ _ h;cases j
   exact⟨a,i,by simp only[e];omega,fun _=>f⟩
theorem wy {z:α->Nat} {sz:List α->Nat} {n m:Nat} (c:sz []=0) (d:∀e x,sz (e++[x])=sz e+z x) (i:∀p q,(g p).2=some q->∃a,p=some a/\a+z (g p).1=q/\q<=n) (h:∀p,z (g p).1<=m) (j:∀b,p0=some b->b<=n) (k:Nat):sz (lL g p0 k).1<=n+m:=by
 induction k with
 |zero=>rw[lL];simp[c]
 |succ k l=>
  cases hh:(lL g p0 k).2 with
  |none=>rw[rY hh];exact l
  |some p=>
   obtain⟨a,r,o,f⟩:=se c d i k p hh;have:=f j;have:=h (some p);rw[fS hh];simp only[d];omega
end
def IH (s:ByteArray) (p:Option Nat):dE×Option Nat:=
 (⟨((mH s 1 p).1:Nat),(bG s 1 (mH s 1 p).2).1,(bG s 2 (bG s 1 (mH s 1 p).2).2).1,zA (mH s 8 (bG s 2 (bG s 1 (mH s 1 p).2).2).2).1⟩,(mH s 8 (bG s 2 (bG s 1 (mH s 1 p).2).2).2).2)
def lK (s:ByteArray) (a:Option Nat) (k:Nat):List dE×Option Nat:=lL (IH s) a k
theorem wq {s:ByteArray} {a:Option Nat} {k:Nat} (h:(lK s a k).2=none):lK s a (k+1)=lK s a k:=rY h
theorem ZS {s:ByteArray} {a:Option Nat} {k p:Nat} (h:(lK s a k).2=some p):lK s a (k+1)=((lK s a k).1++[(IH s (some p)).1],(IH s (some p)).2):=fS h
theorem aKx {s:ByteArray} {a:Option Nat} {k:Nat} (h:(lK s a k).2=none) (m:Nat) (b:k<=m):lK s a m=lK s a k:=ZT h b
theorem VQ {s:ByteArray} {p0:Option Nat} (k:Nat):(lK s p0 k).1.length<=k:=aBk k
theorem aKy {s:ByteArray} {p:Option Nat} {N:Nat} {a b c d:Option Nat} {t x:ByteArray} {M:Nat} (e:mH s 1 p=(N,a)) (f:bG s 1 a=(t,b)) (g:bG s 2 b=(x,c)) (h:mH s 8 c=(M,d)):IH s p=(⟨(N:Nat),t,x,zA M⟩,d):=by
 rw[IH,e];simp only[f,g,h]
theorem aLz {s:ByteArray} {r:Rd} {p:Nat} (h:cW s r p) (a:(IV r).2.r9=false):∃q,IH s (some p)=((IV r).1,some q)/\cW s (IV r).2 q:=by
 rw[xX]at a;have c:=IJ a;have b:=yn c;have n:=yn b;obtain⟨d,e⟩:=iK h n;obtain⟨o,f,g⟩:=EP e b;obtain⟨m,i,j⟩:=EP g c;obtain⟨k,l⟩:=iK j a;rw[aKy d f i k,QY,xX];exact⟨m+8,rfl,l⟩
theorem aPu {s:ByteArray} {r:Rd} {p:Nat} (h:cW s r p) (k:Nat) (a:(xG r k).2.r9=false):∃q,lK s (some p) k=((xG r k).1,some q)/\cW s (xG r k).2 q:=aIb (fun _=>WT) (fun _ _=>aLz) h k a
def AW (s:ByteArray):Nat×Option Nat:=mH s 8 (some 0)
def nW (s:ByteArray):Nat×Option Nat:=mH s 2 (AW s).2
def aBj (s:ByteArray):List dE:=(lK s (nW s).2 (nW s).1).1
theorem aEv {s:ByteArray} (a:(gN s).2.r9=false):(qM s).2.r9=false:=by
 rw[gN]at a;exact IJ a
theorem xy {s:ByteArray} (h:cW s ⟨s,false⟩ 0) (a:(qM s).2.r9=false):AW s=((qM s).1,some (0+8))/\cW s (qM s).2 (0+8):=by
 rw[qM]at a |-
 rw[AW];exact iK h a
theorem aLy {s:ByteArray} {p:Nat} (h:cW s (qM s).2 p) (a:(gN s).2.r9=false):mH s 2 (some p)=((gN s).1,some (p+2))/\cW s (gN s).2 (p+2):=by
 rw[gN]at a |-
 exact iK h a
theorem aPs {s:ByteArray} (h:(lI s).2.r9=false):aBj s=(lI s).1/\(AW s).1=(qM s).1:=by
 have i:cW s ⟨s,false⟩ 0:=⟨rfl,Ha _,by simp⟩
 have c:(gN s).2.r9=false:=by
  cases hh:(gN s).2.r9 with
  |false=>rfl
  |true=>
   have:(xG (gN s).2 (gN s).1).2.r9=true:=IU (k:=0) (by rw[xG];exact hh) _ (Ha _);rw[lI,this]at h;exact h
 have j:(qM s).2.r9=false:=aEv c;obtain⟨b,d⟩:=xy i j;obtain⟨f,g⟩:=aLy d c;have a:nW s=((gN s).1,some (0+8+2)):=by rw[nW,b];exact f
 rw[lI]at h |-
 obtain⟨q,e,_⟩:=aPu g (gN s).1 h;refine⟨?_,by rw[b]⟩;rw[aBj,a];simp only;rw[e]
theorem aGd (s:ByteArray) (p:Option Nat):I64 (IH s p).1.kind/\I64 (IH s p).1.num:=by
 have b:(mH s 1 p).1<256:=by
  cases p with
  |none=>simp[mH]
  |some p=>
   rw[xL];split
   ·have:=wS (zC s p 1);rename_i hh;rw[kF hh]at this;simpa using this
   ·simp
 have a:=yN (mH s 8 (bG s 2 (bG s 1 (mH s 1 p).2).2).2).1;rw[IH];refine⟨⟨?_,?_⟩,a⟩
 ·show _<=((mH s 1 p).1:Int);omega
 ·show((mH s 1 p).1:Int)<=_;omega
theorem aFz {s:ByteArray} {a:Option Nat} (k:Nat):yy (lK s a k).1:=sd (g:=IH s) (P:=fun x=>I64 x.kind/\I64 x.num) (aGd s) k
theorem aBt {s:ByteArray} (a:s.size≠0) (h:uK (zA (AW s).1) (aBj s)=s):fF s=(zA (AW s).1,aBj s,true):=aNq a (aFz _) h
theorem aGs {s:ByteArray} (h:s.size=0\/uK (zA (AW s).1) (aBj s)≠s):fF s=(0,[],false):=by
 cases hh:(lI s).2.r9 with
 |true=>exact UW hh
 |false=>
  obtain⟨b,c⟩:=aPs hh;by_cases a:uK (zA (qM s).1) (lI s).1=s
  ·rcases h with h|h
   ·have d:cW s ⟨s,false⟩ 0:=⟨rfl,Ha _,by simp⟩
    have e:(gN s).2.r9=false:=by
     cases hq:(gN s).2.r9 with
     |false=>rfl
     |true=>
      have:(xG (gN s).2 (gN s).1).2.r9=true:=IU (k:=0) (by rw[xG];exact hq) _ (Ha _);rw[lI,this]at hh;exact hh
    have f:(qM s).2.r9=false:=aEv e;have:=(xy d f).2.2.1;omega
   ·rw[b,c]at h;exact absurd a h
  ·exact aFd a
def jx (s:ByteArray) (p:Option Nat):fA×Option Nat:=(⟨(bG s 2 p).1,zA (mH s 8 (bG s 2 p).2).1⟩,(mH s 8 (bG s 2 p).2).2)
def wP (s:ByteArray) (a:Option Nat) (k:Nat):List fA×Option Nat:=lL (jx s) a k
theorem DJ (s:ByteArray) (a:Option Nat):wP s a 0=([],a):=rfl
theorem aGb {s:ByteArray} {a:Option Nat} {k p:Nat} (h:(wP s a k).2=some p):wP s a (k+1)=((wP s a k).1++[(jx s (some p)).1],(jx s (some p)).2):=fS h
theorem aGc {s:ByteArray} {a:Option Nat} {k:Nat} (h:(wP s a k).2=none) (m:Nat) (b:k<=m):wP s a m=wP s a k:=ZT h b
def ke (s:ByteArray) (p:Option Nat):ByteArray×Option Nat:=bG s 1 p
def sj (s:ByteArray) (p:Option Nat):Nat×Option Nat:=mH s 8 (ke s p).2
def lMn (s:ByteArray) (p:Option Nat):Nat×Option Nat:=mH s 4 (sj s p).2
def SW (s:ByteArray) (p:Option Nat):List fA×Option Nat:=wP s (lMn s p).2 (lMn s p).1
def lSn (s:ByteArray) (p:Option Nat):Nat×Option Nat:=mH s 4 (SW s p).2
def QA (s:ByteArray) (p:Option Nat):List fA×Option Nat:=wP s (lSn s p).2 (lSn s p).1
def vR (s:ByteArray) (p:Option Nat):eA×Option Nat:=(⟨(ke s p).1,zA (sj s p).1,(SW s p).1,(QA s p).1⟩,(QA s p).2)
def aT (s:ByteArray) (a:Option Nat) (k:Nat):List eA×Option Nat:=lL (vR s) a k
theorem kg (s:ByteArray) (a:Option Nat):aT s a 0=([],a):=rfl
theorem aGg {s:ByteArray} {a:Option Nat} {k p:Nat} (h:(aT s a k).2=some p):aT s a (k+1)=((aT s a k).1++[(vR s (some p)).1],(vR s (some p)).2):=fS h
theorem aGh {s:ByteArray} {a:Option Nat} {k:Nat} (h:(aT s a k).2=none) (m:Nat) (b:k<=m):aT s a m=aT s a k:=ZT h b
theorem aOp {s:ByteArray} {r:Rd} {p:Nat} (h:cW s r p) (a:(TD r).2.r9=false):∃q,jx s (some p)=((TD r).1,some q)/\cW s (TD r).2 q:=by
 rw[qV]at a;have g:(yA 2 r).2.r9=false:=by
  cases e:(yA 2 r).2.r9 with
  |false=>rfl
  |true=>rw[uD (k:=8) e]at a;exact a
 obtain⟨q,b,c⟩:=EP h g;obtain⟨d,f⟩:=iK c a;refine⟨q+8,?_,by rw[qV];exact f⟩;rw[jx,b];simp only;rw[d,au]
theorem aIc {s:ByteArray} {r:Rd} {p:Nat} (h:cW s r p) (k:Nat) (a:(qF r k).2.r9=false):∃q,wP s (some p) k=((qF r k).1,some q)/\cW s (qF r k).2 q:=aIb (fun _=>QV) (fun _ _=>aOp) h k a
theorem aMa {s:ByteArray} {r:Rd} {p:Nat} (h:cW s r p) (a:(tL r).2.r9=false):∃q,vR s (some p)=((tL r).1,some q)/\cW s (tL r).2 q:=by
 rw[uU]at a;have f:(LK r).2.r9=false:=by
  cases e:(LK r).2.r9 with
  |false=>rfl
  |true=>rw[FW e]at a;exact a
 have d:(FU r).2.r9=false:=by
  cases e:(FU r).2.r9 with
  |false=>rfl
  |true=>rw[FC e]at f;exact f
 have c:(LJ r).2.r9=false:=by
  cases e:(LJ r).2.r9 with
  |false=>rfl
  |true=>rw[FV e]at d;exact d
 have b:(JE r).2.r9=false:=by
  cases e:(JE r).2.r9 with
  |false=>rfl
  |true=>rw[DT e]at c;exact c
 have l:(GC r).2.r9=false:=by
  cases e:(GC r).2.r9 with
  |false=>rfl
  |true=>rw[FT e]at b;exact b
 obtain⟨i,m,o⟩:∃q,ke s (some p)=((GC r).1,some q)/\cW s (GC r).2 q:=by rw[ke];rw[GC]at l |-;exact EP h l
 have g:sj s (some p)=((JE r).1,some (i+8))/\cW s (JE r).2 (i+8):=by
  rw[sj,m];rw[JE]at b |-
  generalize (GC r).2=Z at *;exact iK o b
 have j:lMn s (some p)=((LJ r).1,some (i+8+4))/\cW s (LJ r).2 (i+8+4):=by
  rw[lMn,g.1];rw[LJ]at c |-
  obtain⟨_,x⟩:=g;generalize (JE r).2=Z at *;exact iK x c
 obtain⟨v,n,t⟩:∃q,SW s (some p)=((FU r).1,some q)/\cW s (FU r).2 q:=by
  rw[SW,j.1];rw[FU]at d |-
  obtain⟨_,y⟩:=j;generalize (LJ r).2=Z at *;generalize (LJ r).1=Y at *;exact aIc y _ d
 have k:lSn s (some p)=((LK r).1,some (v+4))/\cW s (LK r).2 (v+4):=by
  rw[lSn,n];rw[LK]at f |-
  generalize (FU r).2=Z at *;exact iK t f
 obtain⟨C,w,A⟩:∃q,QA s (some p)=((TZ r).1,some q)/\cW s (TZ r).2 q:=by
  rw[QA,k.1];rw[TZ]at a |-
  obtain⟨_,z⟩:=k;generalize (LK r).2=Z at *;generalize (LK r).1=Y at *;exact aIc z _ a
 have u:vR s (some p)=(⟨(ke s (some p)).1,zA (sj s (some p)).1,(SW s (some p)).1,(QA s (some p)).1⟩,(QA s (some p)).2):=by rw[vR]
 have B:=g.1;rw[u,ox,uU];clear u j k g t o l b c d f a h;generalize ke s (some p)=D at *;generalize sj s (some p)=E at *;generalize SW s (some p)=F at *;generalize QA s (some p)=G at *;generalize GC r=H at *;generalize JE r=I at *;generalize FU r=J at *;generalize TZ r=K at *;subst m B n w;exact⟨C,rfl,A⟩
theorem aOq {s:ByteArray} {r:Rd} {p:Nat} (h:cW s r p) (k:Nat) (a:(jJ r k).2.r9=false):∃q,aT s (some p) k=((jJ r k).1,some q)/\cW s (jJ r k).2 q:=aIb (fun _=>JD) (fun _ _=>aMa) h k a
def sf (s:ByteArray):Nat×Option Nat:=mH s 8 (some 4)
def VR (s:ByteArray):Nat×Option Nat:=mH s 8 (sf s).2
def SH (s:ByteArray):Nat×Option Nat:=mH s 4 (VR s).2
def QB (s:ByteArray):List eA×Option Nat:=aT s (SH s).2 (SH s).1
theorem ta {s:ByteArray} (d:(oE s).2.r9=false):(sf s).1=(BO s).1/\(VR s).1=(yV s).1/\(QB s).1=(oE s).1:=by
 have c:(du s).2.r9=false:=by
  cases e:(du s).2.r9 with
  |false=>rfl
  |true=>rw[oE,tV (k:=0) (by rw[sN];exact e) _ (Ha _)]at d;exact d
 have b:(yV s).2.r9=false:=by
  rw[du]at c;exact IJ c
 have a:(BO s).2.r9=false:=by
  rw[yV]at b;exact IJ b
 have p:(zj s).2.r9=false:=by
  rw[BO]at a;exact IJ a
 have u:cW s (zj s).2 4:=by
  have r:cW s ⟨s,false⟩ 0:=⟨rfl,Ha _,by simp⟩
  have i:(gB 4 ⟨s,false⟩).2=(zj s).2:=by rw[gB,zj]
  have t:(gB 4 ⟨s,false⟩).2.r9=false:=by rw[i];exact p
  have j:=(iK r t).2;rw[i,Oa]at j;exact j
 have f:sf s=((BO s).1,some (4+8))/\cW s (BO s).2 (4+8):=by
  rw[sf];rw[BO]at a |-
  generalize (zj s).2=Z at *;exact iK u a
 have g:VR s=((yV s).1,some (4+8+8))/\cW s (yV s).2 (4+8+8):=by
  rw[VR,f.1];rw[yV]at b |-
  obtain⟨_,m⟩:=f;generalize (BO s).2=Z at *;exact iK m b
 have h:SH s=((du s).1,some (4+8+8+4))/\cW s (du s).2 (4+8+8+4):=by
  rw[SH,g.1];rw[du]at c |-
  obtain⟨_,n⟩:=g;generalize (yV s).2=Z at *;exact iK n c
 obtain⟨q,l,_⟩:∃q,QB s=((oE s).1,some q)/\cW s (oE s).2 q:=by
  rw[QB,h.1];rw[oE]at d |-
  obtain⟨_,o⟩:=h;generalize (du s).2=Z at *;generalize (du s).1=Y at *;exact aOq o _ d
 refine⟨?_,?_,?_⟩
 ·rw[f.1]
 ·rw[g.1]
 ·rw[l]
theorem xd {s:ByteArray} {a:Option Nat} (k:Nat):uZ (wP s a k).1:=sd (g:=jx s) (P:=fun x=>GF x.n) (fun p=>by rw[jx];exact yN _) k
theorem aGe (s:ByteArray) (p:Option Nat):GF (vR s p).1.l9/\uZ (vR s p).1.m9/\uZ (vR s p).1.s9:=by
 have e:(vR s p).1=⟨(ke s p).1,zA (sj s p).1,(SW s p).1,(QA s p).1⟩:=by rw[vR]
 have a:uZ (SW s p).1:=by rw[SW];exact xd _
 have b:uZ (QA s p).1:=by rw[QA];exact xd _
 have c:GF (zA (sj s p).1):=yN _;rw[e];generalize SW s p=A at *;generalize QA s p=B at *;generalize zA (sj s p).1=C at *;exact⟨c,a,b⟩
theorem xe {s:ByteArray} {a:Option Nat} (k:Nat):yz (aT s a k).1:=sd (g:=vR s) (P:=fun t=>GF t.l9/\uZ t.m9/\uZ t.s9) (aGe s) k
theorem sw {c:nB} {s:ByteArray} (a:s.size≠0) (d:s.size<=1000000000) (h:yI (zA (sf s).1) (zA (VR s).1) (QB s).1=s) (b:iB c (zA (VR s).1) (QB s).1=true):pJ c s=(zA (sf s).1,zA (VR s).1,(QB s).1,true):=
 aKf a d (yN _) (by rw[QB];exact xe _) h b
theorem aBs {c:nB} {s:ByteArray} (h:¬(s.size≠0/\yI (zA (sf s).1) (zA (VR s).1) (QB s).1=s/\iB c (zA (VR s).1) (QB s).1=true)):pJ c s=(0,0,[],false):=by
 cases hsh:(oE s).2.r9 with
 |true=>exact NZ hsh
 |false=>
  obtain⟨b,d,e⟩:=ta hsh;rw[b,d,e]at h;by_cases a:yI (zA (BO s).1) (zA (yV s).1) (oE s).1=s
  ·cases h2:iB c (zA (yV s).1) (oE s).1 with
   |false=>exact wk h2
   |true=>
    refine absurd ⟨?_,a,h2⟩ h;intro g;have f:(zj s).2.r9=true:=by
     rw[zj];unfold wB;rw[Ga (by show s.size<4;omega)]
    have:(oE s).2.r9=true:=by
     rw[oE];refine tV (k:=0) ?_ _ (Ha _);rw[sN,du];refine uD ?_;rw[yV];refine uD ?_;rw[BO];exact uD f
    rw[hsh]at this;cases this
  ·exact wh a
