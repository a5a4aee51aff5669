import Derived.Test.YtjpeimianeiegaaGreatDoorJ30
import Derived.Test.YtjpeimianeiegaaGreatDoorJ31
import Derived.Test.YtjpeimianeiegaaGreatDoorJ32
set_option maxRecDepth 100000
set_option maxHeartbeats 4000000
namespace Go.Proofs.YtjpeimianeiegaaGreatDoor
open Go.RowKit Tryz
theorem uJ:(prog.info? 107).map (fun i=>(i.zero,i.size,i.bytes))=some (some (.agg #[.string ByteArray.empty,.int .i64 0,.slice none 0 0,.slice none 0 0]),4,72):=by kernel_rfl
theorem uC.mono {B B':Nat} {w:World} {a:Option Addr} {k:List eA} (h:uC w B a k) (f:B'<=B):uC w B' a k:=by
 rcases h with h|⟨d,o,c,t,T,rfl,G,g,u,h⟩
 ·exact Ba h
 ·have m:∀{n a j},oD w B T n a j->oD w B' T n a j:=fun {n a j} h=>by
   rcases h with h|⟨d,E,b,F,e,f,r⟩
   ·exact Ba h
   ·exact Ea ⟨d,E,b,F,e,by omega,r⟩
  refine Ea ⟨d,o,c,t,T,rfl,by omega,g,u,fun i v=>?_⟩;obtain⟨l,q,p,s,x,y,z,A,C,D⟩:=h i v;exact⟨l,q,p,s,x,y,z,A,m C,m D⟩
theorem gw (b a:ByteArray) (c:Int) (w:World):
 Calls prog 73 #[.agg #[.string b,.string a,.int .i64 c],.agg #[.string b,.string a,.int .i64 c]] w fun e d=>e=.returned (.bool true)/\Below w.heap.size w d:=by
 go_enter func73,ntmps73;go_wp2;go_ret;exact⟨rfl,((Below.refl _ _).alloc (Da _) _).alloc (by simp) _⟩
theorem YV (a r:Option Addr) (s l:Nat) (d:List dA) (w:World) (y:iA w a d) (m:iA w r d) (n:d.length<=maxLen):
 Calls prog 35 #[.slice a d.length s,.slice r d.length l] w fun e F=>e=.returned (.bool true)/\Below w.heap.size w F:=by
 unfold maxLen at n;have z:Hid (iA w a d):=y;have q:Hid (iA w r d):=m;clear y m;go_enter func35,ntmps35;go_wp2;go_loopw [5] (fun i wr=>∃k:Nat,k<=d.length/\i=.int .i64 k/\Below w.heap.size w wr) (fun i _=>d.length-(intOf i).toNat)
 case atStart=>exact⟨0,Ha _,rfl,Below.refl _ _⟩
 case round=>
  obtain⟨k,L,rfl,c⟩:=hrel;by_cases p:k<d.length
  ·obtain⟨b,o,rfl,K,t,u,v⟩:=(z.out.later c).at p;obtain⟨G,M,rfl,D,f,g,j⟩:=(q.out.later c).at p;have H:=oA.cells t;have I:=oA.cells u;have J:=oA.cells v;have A:=oA.cells f;have B:=oA.cells g;have C:=oA.cells j;clear t u v f g j;have E:=oA.there wr;go_wp2_with fail;refine jA (by kernel_rfl) (by kernel_rfl) ?_;repeat (go_big_quiet_step (refine tA (gw _ _ _ _)))
   refine wpQuiet_nil ?_;rintro _ ⟨x,rfl⟩;go_wp2;exact⟨⟨k+1,by omega,by go_num,c.trans (x.h.mono c.size)⟩,by simp[intOf];omega⟩
  ·go_wp2;go_ret;exact⟨rfl,c⟩
theorem JU (a l:Option Addr) (h d:Nat) (f:List dA) (c k o q:Int) (p:Bool) (w:World) (r:iA w a f) (i:iA w l f) (j:f.length<=maxLen):
 Calls prog 10 #[.agg #[.slice a f.length h,.int .i64 c,.int .i64 k,.int .i64 o,.int .i64 q,.bool p],.agg #[.slice l f.length d,.int .i64 c,.int .i64 k,.int .i64 o,.int .i64 q,.bool p]] w
  fun e n=>e=.returned (.bool true)/\Below w.heap.size w n:=by
 have t:Hid (iA w a f):=r;have m:Hid (iA w l f):=i;clear r i;go_enter func10,ntmps10;go_wp2_with fail;have b:=fun u v=>((Below.refl w.heap.size w).alloc (Da _) u).alloc (by simp) v;refine(YV a l h d f _ (t.out.later (b _ _)) (m.out.later (b _ _)) j).mono ?_;rintro e n ⟨rfl,g⟩;obtain⟨x,_⟩:=aNc g;have s:Hid (Below w.heap.size w n):=(b _ _).trans (g.mono (by simp;omega));clear b g;go_wp2;go_ret;exact⟨rfl,s.out⟩
theorem QU {a:List dA} {i:Nat} (c:dN a) (d:i<a.length):oO a a[i].name i:=by
 refine⟨Ke d,fun j e b=>c j i b d,fun j e g=>?_⟩;rcases Ac i j with h|h
 ·have f:=c i j h e;exact qL f
 ·obtain rfl:i=j:=by omega
  exact rE _
theorem XI (P D:Nat) (a:Option Addr) (f i:Nat) (c:List dA) (n:Int) (w:World) (y:w.cell? ⟨P,0,none⟩=some (.pointer (some ⟨D,0,none⟩))) (u:P<w.heap.size) (x:w.cell? ⟨D,4,none⟩=some (.slice a c.length f)) (t:D<w.heap.size) (v:iA w a c)
 (g:dN c) (r:c.length<=1048576) (k:xI w) (A:i<c.length) (B:c[i].name=vD n):
 Calls prog 142 #[.pointer (some ⟨P,0,none⟩),.int .i64 n] w fun e d=>∃b o,a=some ⟨b,o,none⟩/\e=.returned (.pointer (some ⟨b,o+i*3,none⟩))/\Below w.heap.size w d:=by
 have s:Hid (∀d,Below w.heap.size w d->d.cell? ⟨P,0,none⟩=some (.pointer (some ⟨D,0,none⟩))/\d.cell? ⟨D,4,none⟩=some (.slice a c.length f)):=fun d h=>⟨(h.cell u).trans y,(h.cell t).trans x⟩
 have F:Hid (∀W,Below w.heap.size w W->Calls prog 97 #[.slice a c.length f,.string (vD n)] W fun e d=>e=.returned (.tuple #[.int .i64 i,.bool (eF c (vD n) i)])/\Below W.heap.size W d):=fun W J=>by
  refine(uP a f c (vD n) W (v.later J) g r).mono ?_;rintro e d ⟨j,C,rfl,z⟩;rw[<-B]at C |-
  obtain rfl:=C.uniq (QU g A);exact⟨rfl,z⟩
 have G:Hid (xI w):=k;obtain⟨b,o,rfl,z,_⟩:=v.at A;clear v g k B;generalize eF c (vD n) i=hh at *;go_enter func142,ntmps142;obtain⟨H,I⟩:=s.out w (Below.refl _ _);go_wp2_with fail;go_region_held3 (fun d=>d.cell? ⟨P,0,none⟩=some (.pointer (some ⟨D,0,none⟩))/\d.cell? ⟨D,4,none⟩=some (.slice (some ⟨b,o,none⟩) c.length f))
  (exact s.out _ (by repeat (first|with_reducible exact Below.refl _ _|with_reducible exact l.out|with_reducible exact m.out|with_reducible refine Below.drew ?_|with_reducible refine pA ?_ (cA _ _))))
  (first
  |(go_at_call 102;refine(jX n _ (G.out.later (by repeat (first|with_reducible exact Below.refl _ _|with_reducible refine Below.drew ?_|with_reducible refine pA ?_ (cA _ _))))).mono ?_;rintro e K ⟨rfl,p⟩;have l:Hid (Below w.heap.size w K):=pA (by repeat (first|with_reducible exact Below.refl _ _|with_reducible refine Below.drew ?_|with_reducible refine pA ?_ (cA _ _))) p;clear p)
  |(go_at_call 97;refine(F.out _ (by repeat (first|with_reducible exact l.out|with_reducible refine Below.drew ?_|with_reducible refine pA ?_ (cA _ _)))).mono ?_;rintro e E ⟨rfl,q⟩;have m:Hid (Below w.heap.size w E):=pA (by repeat (first|with_reducible exact l.out|with_reducible refine Below.drew ?_|with_reducible refine pA ?_ (cA _ _))) q;clear q))
 obtain⟨L,M⟩:=s.out E m.out;clear H I y x;go_wp2;go_ret;exact⟨b,o,rfl,by first|rfl|(simp),m.out⟩
theorem uV {a b:ByteArray} (h:a=b):Ending.returned (.string a)=.returned (.string b):=by rw[h]
theorem TO (p:ByteArray) (w:World) (d:p.size<=maxLen):
 Calls prog 122 #[.string p] w fun e c=>e=.returned (.string (sJ p))/\Below w.heap.size w c:=by
 by_cases h:1<=p.size/\p.size<=60000
 ·have i:uA (p.size:Int) 1 60000=true:=by unfold uA;simp;omega
  have E:Hid (sJ p=aB 4 p.size++aB 4 (kH p:Nat)++p):=Ga h;have k:=bB 4 (p.size:Int);have l:=bB 4 ((kH p:Nat):Int);have m:=YR p;have n:=h.2;have g:Hid (p.size<=maxLen):=d;clear d h;go_enter func122,ntmps122;go_wp2_with(go_at_call 41;refine(fD _ _ _ _).mono ?_;rintro e c ⟨rfl,hw⟩;replace hw:=hw.symm;subst hw);refine(aE 4 (p.size:Int) _ (by omega) (by omega) (by omega)).mono ?_;rintro e o ⟨rfl,a⟩;go_wp2_with fail;refine(LC p _ g.out).mono ?_;rintro e c ⟨rfl,hw⟩;replace hw:=hw.symm;subst hw;go_wp2_with fail;refine(aE 4 ((kH p:Nat):Int) _ (by omega) (by omega) (by omega)).mono ?_;rintro e j ⟨rfl,b⟩;generalize aB 4 (p.size:Int)=A at *;generalize aB 4 ((kH p:Nat):Int)=B at *;have f:Hid (Below w.heap.size w j):=pA a b;clear a b;go_wp2;go_ret;exact⟨uV E.out.symm,f.out⟩
 ·have i:uA (p.size:Int) 1 60000=false:=by unfold uA;simp;omega
  have E:Hid (sJ p=ByteArray.empty):=Ca h;go_enter func122,ntmps122;go_wp2_with(go_at_call 41;refine(fD _ _ _ _).mono ?_;rintro e c ⟨rfl,hw⟩;replace hw:=hw.symm;subst hw);go_ret;exact⟨uV E.out.symm,Below.refl _ _⟩
theorem aIs {x y:ByteArray}:(x.toList==y.toList)=true ↔ x=y:=⟨fun h=>toList_inj (by simpa using h),fun h=>by rw[h];simp⟩
theorem aOz {x y:ByteArray}:(x.toList==y.toList)=false ↔ x≠y:=by rw[<-Bool.not_eq_true,aIs]
theorem yj {x:ByteArray}:x.toList.isEmpty=true ↔ x=ByteArray.empty:=by
 rw[List.isEmpty_iff];constructor
 ·intro h;exact toList_inj (by rw[h,ByteArray.toList_eq];rfl)
 ·intro h;rw[h,ByteArray.toList_eq];rfl
theorem RJ {x:ByteArray}:x.toList.isEmpty=false ↔ x≠ByteArray.empty:=by rw[<-Bool.not_eq_true,yj]
theorem TM (d:ByteArray) (w:World) (r:d.size<=maxLen):
 Calls prog 89 #[.string d] w fun e b=>e=.returned (.string (eV d))/\Below w.heap.size w b:=by
 have s:Hid _:=r;unfold maxLen at r;by_cases o:d.size<8
 ·have E:Hid (eV d=ByteArray.empty):=Ga o;go_enter func89,ntmps89;go_wp2;go_ret;exact⟨uV E.out.symm,Below.refl _ _⟩
 ·have g:Hid (eV d=if d.size-8<xB d then ByteArray.empty
   else if sJ (d.extract 8 (8+xB d))=ByteArray.empty\/sJ (d.extract 8 (8+xB d))≠d.extract 0 (8+xB d) then ByteArray.empty
   else d.extract 8 (8+xB d)):=Ca o
  have q:∀w,Calls prog 80 #[.string d,.int .i64 0,.int .i64 4] w fun e b=>e=.returned (.int .i64 (xB d:Nat))/\b=w:=fun w=>zX d 0 4 w s.out (by omega) (by omega);have n:Hid _:=q;have t:xB d<4294967296:=by
   have:=wS (zC d 0 4);rw[kF (by omega)]at this;exact this
  clear q;have p:∀w,xB d<=d.size-8->Calls prog 122 #[.string (d.extract 8 (8+xB d))] w fun e b=>e=.returned (.string (sJ (d.extract 8 (8+xB d))))/\Below w.heap.size w b:=fun w h=>TO _ w (by rw[kU (by omega)];unfold maxLen;omega);have k:Hid _:=p;clear p;generalize sJ (d.extract 8 (8+xB d))=F at *;generalize xB d=N at *;by_cases i:d.size-8<N
  ·have E:Hid (eV d=ByteArray.empty):=by show _=_;rw[g.out,Ga i]
   go_enter func89,ntmps89;go_wp2_with(go_at_call 80;refine(n.out _).mono ?_;rintro e b ⟨rfl,hw⟩;replace hw:=hw.symm;subst hw);go_ret;exact⟨uV E.out.symm,Below.refl _ _⟩
  ·go_enter func89,ntmps89;go_wp2_with(go_at_call 80;refine(n.out _).mono ?_;rintro e b ⟨rfl,hw⟩;replace hw:=hw.symm;subst hw);refine(k.out _ (by omega)).mono ?_;rintro e u ⟨rfl,f⟩;have j:Hid _:=f;clear f;by_cases a:F=ByteArray.empty
   ·have E:Hid (eV d=ByteArray.empty):=by show _=_;rw[g.out,Ca i,Ga (Ba a)]
    have m:=yj.2 a;clear a;go_wp2;go_ret;exact⟨uV E.out.symm,j.out⟩
   ·have m:=RJ.2 a;by_cases c:F=d.extract 0 (8+N)
    ·have E:Hid (eV d=d.extract 8 (8+N)):=by show _=_;rw[g.out,Ca i,Ca (by intro h;rcases h with h|h;exact a h;exact h c)]
     have l:=aIs.2 c;clear a c;go_wp2;go_ret;exact⟨uV E.out.symm,j.out⟩
    ·have E:Hid (eV d=ByteArray.empty):=by show _=_;rw[g.out,Ca i,Ga (Ea c)]
     have l:=aOz.2 c;clear a c;go_wp2;go_ret;exact⟨uV E.out.symm,j.out⟩
def vS (w:World) (a:Option Addr) (l:List ByteArray):Prop:=l=[]\/∃b o,a=some ⟨b,o,none⟩/\b<w.heap.size/\∀i (h:i<l.length),w.cell? ⟨b,o+i,none⟩=some (.string l[i])
theorem vS.later {w e:World} {a:Option Addr} {l:List ByteArray} (h:vS w a l) (d:Below w.heap.size w e):vS e a l:=by
 rcases h with h|⟨b,o,rfl,c,h⟩
 ·exact Ba h
 ·exact Ea ⟨b,o,rfl,Ab c d.size,fun i f=>by rw[<-h i f];exact d.cell c⟩
def yU (w:World) (B:Nat) (a:Option Addr) (l:List ByteArray):Prop:=
 l=[]\/∃g o b t,a=some ⟨g,o,none⟩/\B<=g/\w.heap[g]?=some (.cells b t (0,0))/\∀i (h:i<l.length),w.cell? ⟨g,o+i,none⟩=some (.string l[i])
theorem yU.strs {w:World} {B:Nat} {a:Option Addr} {l:List ByteArray} (h:yU w B a l):vS w a l:=by
 rcases h with h|⟨g,o,b,t,e,_,c,h⟩
 ·exact Ba h
 ·exact Ea ⟨g,o,e,aA c,h⟩
theorem qS {w:World} {B:Nat} {e:TypeId} {a:Option Addr} {c:Nat} {l:List ByteArray} (h:w.ownsRow B e 1 (.slice a l.length c) l.length (l.map Value.string)):yU w B a l:=by
 rcases h.2 with⟨_,p⟩|⟨g,f,b,k,n,m,_,_,q,d⟩
 ·exact Ba (Fb.1 p)
 ·simp only[Value.slice.injEq]at k;refine Ea ⟨g,0,b,e,k.1,n,m,fun i o=>?_⟩;rw[Oa,cell_of_row w g i b _ _ m];have j:(b.toList.take (l.length*1))[i]?=(l.map Value.string)[i]?:=by rw[d]
  rw[Eb (by omega)]at j;rw[<-Sd,j];simp[Ka o]
theorem DC:∃i,prog.info? 9=some i/\i.zero=some (.string ByteArray.empty)/\i.size=1/\i.bytes=16:=by
 have h:(prog.info? 9).map (fun i=>(i.zero,i.size,i.bytes))=some (some (.string ByteArray.empty),1,16):=by kernel_rfl
 obtain⟨i,b,a⟩:=Ib.1 h;simp only[Hb]at a;exact⟨i,b,a.1,a.2.1,a.2.2⟩
theorem WY {c:nB}:∀{rs:List dE} {a:Int} {b:List eA},iB c a b=true->(xE c a b rs).2.1.length+nA (xE c a b rs).2.1<=b.length+nA b+2*rs.length+fE rs
 |[],a,b,_=>by simp[xE,fE]
 |r::rs,a,b,h=>by
  have e:=BQ h r;rw[xE];simp only[Sa,fE];split
  ·rename_i d;have f:=WY (rs:=rs) (FK h d);omega
  ·show(cE c a b r).2.1.length+nA (cE c a b r).2.1<=_;omega
theorem WZ {c:nB} {a:Int} {d:List eA} {b:List dE} {k:Nat} (e:k<b.length) (f:(cE c a d b[k]).2.2=true):xE c a d (b.drop k)=xE c (cE c a d b[k]).1 (cE c a d b[k]).2.1 (b.drop (k+1)):=by
 rw[Ra e,xE,Ga f]
theorem XA {c:nB} {a:Int} {d:List eA} {b:List dE} {k:Nat} (e:k<b.length) (f:(cE c a d b[k]).2.2=false):xE c a d (b.drop k)=((cE c a d b[k]).1,(cE c a d b[k]).2.1,false):=by
 rw[Ra e,xE,Ca (by rw[f];decide)]
theorem EK (a:List dE) {k:Nat} (b:k<a.length):fE (a.drop k)=a[k].n9.size+a[k].text.size+fE (a.drop (k+1)):=by
 rw[Ra b,fE]
theorem SR (c:nB) (f:Int) (a:Option Addr) (h:Nat) (g:List eA) (M:Nat) (w:World) (s:eC w a g) (b:aJo g M) (j:g.length<=1000000000) (q:dF w):
 Calls prog 138 #[tE c,.agg #[.int .i64 f,.slice a g.length h]] w fun e u=>e=.returned (.bool (iB c f g))/\Below w.heap.size w u:=by
 have p:Hid _:=fun W (r:Below w.heap.size w W)=>lq c f a h g M W (s.later r) b j (q.later r);clear s b q;unfold YA at p;unfold tE at *;go_enter func138,ntmps138;go_wp2_with fail;refine(p.out _ (pA (cA _ _) (cA _ _))).mono ?_;intro e v t;have o:=bA t;clear t;rcases o.out with⟨k,rfl,i⟩|⟨k,l,m,rfl,_,_,i⟩
 ·have n:Hid _:=pA (pA (cA _ _) (cA _ _)) i;have d:Hid _:=k;clear o i k;go_wp2;go_ret;exact⟨kA d.out.symm,n.out⟩
 ·have n:Hid _:=pA (pA (cA _ _) (cA _ _)) i;have d:Hid _:=k;clear o i k;go_wp2;go_ret;exact⟨kA d.out.symm,n.out⟩
theorem VJ:∃i,prog.info? 9=some i/\i.zero=some (.string ByteArray.empty)/\i.size=1/\i.bytes=16:=by
 have h:(prog.info? 9).map (fun i=>(i.zero,i.size,i.bytes))=some (some (.string ByteArray.empty),1,16):=by kernel_rfl
 obtain⟨i,b,a⟩:=Ib.1 h;simp only[Hb]at a;exact⟨i,b,a.1,a.2.1,a.2.2⟩
theorem vN {w:World} {B:Nat} {e:TypeId} {g i:Nat} {a:List ByteArray} (h:w.ownsRow B e 1 (.slice (some ⟨g,0,none⟩) a.length i) a.length (a.map Value.string)):
 a.length<=i/\g<w.heap.size/\∀(j:Nat) x,a[j]?=some x->w.cell? ⟨g,0+j,none⟩=some (.string x):=by
 rcases h.2 with⟨c,_⟩|⟨p,f,d,c,q,k,l,_,_,n⟩
 ·simp at c
 ·simp only[Value.slice.injEq,Ja,Addr.mk.injEq,Ub]at c;obtain⟨rfl,_,rfl⟩:=c;refine⟨l,aA k,fun j x o=>?_⟩;rw[cell_of_row w g _ d _ _ k,Oa,<-Sd];have b:(a.map Value.string)[j]?=some (.string x):=by rw[Jd,o];rfl
  rw[<-n]at b;have m:=(Va.1 b).1;rw[Ta]at m;rw[Eb (by omega)]at b;exact b
theorem uC.turned {S:Nat->Prop} {w q:World} {B:Nat} {a:Option Addr} {p:List eA} (h:uC w B a p) (n:gA S w q) (l:∀g,B<=g->g<w.heap.size->¬S g):uC q B a p:=by
 rcases h with h|⟨g,o,c,t,T,rfl,k,e,r,h⟩
 ·exact Ba h
 ·have m:=n.block g (aA e) (l g k (aA e));exact Ea ⟨g,o,c,t,T,rfl,k,m.trans e,r,fun i s=>(h i s).keep (fun j _=>World.cell?_of_block m) fun f b d _=>⟨n.block f b (l f d b),rfl⟩⟩
theorem zP (a:List fA) (k:Nat) (h:k<a.length):a[k].s.size<=wC a:=by
 have b:=rL a k h;have c:=oN a (k+1);omega
theorem AL {ts:List eA} (h:ts.length+nA ts<=1100000):aJo ts 1100000/\aNj ts/\True/\aEb ts:=by
 have f:∀i (a:i<ts.length),jE ts[i]<=1100000:=fun i a=>by have:=BT ts i a;omega
 have c:∀i (a:i<ts.length),ts[i].name.size<=1100000/\ts[i].m9.length<=1100000/\ts[i].s9.length<=1100000/\wC ts[i].m9<=1100000/\wC ts[i].s9<=1100000:=fun i a=>by have:=f i a;unfold jE at this;omega
 have b:∀i (a:i<ts.length),(∀j (e:j<ts[i].m9.length),ts[i].m9[j].s.size<=1000000000)/\(∀j (e:j<ts[i].s9.length),ts[i].s9[j].s.size<=1000000000):=fun i a=>
  ⟨fun j d=>by have:=zP _ j d;have:=c i a;omega,fun j d=>by have:=zP _ j d;have:=c i a;omega⟩
 refine⟨fun i a=>⟨?_,(b i a).1,(b i a).2,?_,?_,?_⟩,fun i a=>⟨?_,(b i a).1,(b i a).2,?_,?_⟩,trivial,fun i a=>⟨?_,?_⟩⟩<;>(have:=c i a;unfold maxLen at *;omega)
section
open Go.Maps
theorem xO {v:Value} {g:Nat} {ps:List MemPlace} (h:kD v=some (eE g,ps)):v=.pointer (some ⟨g,0,none⟩):=by
 unfold kD at h;split at h
 ·rename_i a;simp only[Ja,Hb,eE,DataW.lit.injEq,Lit.int.injEq,true_and]at h;have:=h.1;have:a=g:=by omega
  rw[this]
 ·simp[eE]at h
 ·cases h
theorem KN {v:Value} {a:List MemPlace} (h:kD v=some (DataW.nil,a)):v=.pointer none:=by
 unfold kD at h;split at h
 ·simp[eE]at h
 ·rfl
 ·cases h
theorem aMu (w:World):(zeroValue 151).run prog w=.ok (.pointer none) w:=by kernel_rfl
def vn (L:List (eA×Nat)) (a:ByteArray) (w:World) (e:Ending) (b:World):Prop:=
 (∃p,zB (fun p:eA×Nat=>p.1.name) a L=some p/\e=.returned (.tuple #[.pointer (some ⟨p.2,0,none⟩),.bool true])/\b=w)\/
 (zB (fun p:eA×Nat=>p.1.name) a L=none/\∃x,e=.returned (.tuple #[.pointer (some ⟨x,0,none⟩),.bool false])/\w.heap.size<=x/\lC b (fun g=>w.heap.size<=g) x ⟨a,-1,[],[]⟩ 0/\Below w.heap.size w b)
theorem ib (l m:Nat) (a:ByteArray) (c:nB) (j:Int) (B:Nat->Prop) (T:Nat->Option Nat) (L:List (eA×Nat)) (M:Nat) (w:World) (h:gJ w B T l m c j L M) (q:a.size<=maxLen):
 Calls prog 226 #[.pointer (some ⟨l,0,none⟩),.string a] w fun e s=>vn L a w e s:=by
 have y:w.cell? ⟨l,7,none⟩=some (.map (some m)):=h.blk.cell 7;obtain⟨v,t,b,f⟩:=h.ten.look_ok vJ underlying144 (aMu w) (zd:=.nil) (zp:=[]) rfl (sK q);rw[ZD,rQ (key:=fun p:eA×Nat=>p.1.name) (fun p=>eE p.2)]at *;clear h;cases hg:zB (fun p:eA×Nat=>p.1.name) a L with
 |some p=>
  rw[hg]at b f;have d:=xO f;subst d;have i:Hid _:=hg;clear hg f;simp only[Vf]at b;go_enter func226,ntmps226;go_wp2;go_ret2;exact Ba ⟨p,i.out,rfl,rfl⟩
 |none=>
  rw[hg]at b f;have d:=KN f;subst d;have i:Hid _:=hg;clear hg f;simp only[Wf]at b;have g:Hid _:=fun W=>DY (-1) a W;go_enter func226,ntmps226;go_wp2_with fail;refine(g.out _).mono ?_;rintro e u ⟨x,rfl,r,k,o⟩;have n:=bA k;clear k g;go_wp2;go_ret2;exact Ea ⟨i.out,x,rfl,r,n.out,o⟩
theorem kj (l m x:Nat) (c:nB) (a:Int) (t:eA) (S:Nat->Prop) (M:Nat) (w:World) (d:lA w l (oW c a m) 146) (h:lC w S x t M):
 Calls prog 227 #[.pointer (some ⟨l,0,none⟩),.pointer (some ⟨x,0,none⟩)] w fun e f=>e=.returned (.int .i64 (if t.l9 = -1 then c.tl else t.l9))/\f=w:=by
 obtain⟨o,p,j,n,Q,k,D,h⟩:=h;have g:w.cell? ⟨x,0,none⟩=some (.int .i64 t.l9):=h.blk.cell 0;have i:w.cell? ⟨l,1,none⟩=some (.int .i64 c.tl):=d.cell 1;clear h d;by_cases b:t.l9 = -1
 ·rw[Ga b];go_enter func227,ntmps227;go_wp2;go_ret;exact⟨rfl,rfl⟩
 ·rw[Ca b];go_enter func227,ntmps227;go_wp2;go_ret;exact⟨rfl,rfl⟩
theorem aGp {w:World} {e:Nat} {c:List fA} (h:w.ownsMap prog 9 (plainElem prog 3) e c.length (oC (c.map fun p=>(p.s,qG p.n)))) {m:ByteArray} (f:m.size<=maxLen):
 ∃v:Int,(Instr.lookup 181 (.map (some e)) (.string m) true).run prog w=.ok (.tuple #[.int .i64 v,.bool (zB (·.s) m c).isSome]) w/\∀p,zB (·.s) m c=some p->v=p.n:=by
 obtain⟨v,j,b,i⟩:=h.look_ok vJ underlying181 (MZ w) (zd:=qG 0) (zp:=[]) (plainElem_int underlying3 (by decide)) (sK f);rw[ZD (key:=fun p:fA=>p.s) (val:=fun p=>qG p.n)]at b;obtain⟨a,rfl,d,_⟩:=plainElem_int_inv underlying3 i;refine⟨a,b,fun p g=>?_⟩;rw[rQ (key:=fun p:fA=>p.s) (fun p=>qG p.n),g]at d;simp[qG]at d;exact d.1.symm
theorem DQ (l m x:Nat) (c:nB) (g:Int) (t:eA) (S:Nat->Prop) (M:Nat) (met:ByteArray) (w:World) (i:lA w l (oW c g m) 146) (h:lC w S x t M) (j:met.size<=maxLen):
 Calls prog 229 #[.pointer (some ⟨l,0,none⟩),.pointer (some ⟨x,0,none⟩),.string met] w fun e n=>e=.returned (.int .i64 (aG t.m9 met c.ml))/\n=w:=by
 obtain⟨k,z,r,y,Q,u,D,h⟩:=h;have o:w.cell? ⟨x,1,none⟩=some (.map (some k)):=h.blk.cell 1;have q:w.cell? ⟨l,2,none⟩=some (.int .i64 c.ml):=i.cell 2;obtain⟨v,a,d⟩:=aGp h.lims j;have b:Hid _:=aCa h.rm met c.ml;clear h i;cases hg:zB (fun p:fA=>p.s) met t.m9 with
 |some p=>
  rw[hg]at a b;have f:=d p hg;subst f;simp only[Vf]at a;clear d hg;go_enter func229,ntmps229;go_wp2;go_ret;exact⟨iC (by rw[b.out];rfl),rfl⟩
 |none=>
  rw[hg]at a b;simp only[Wf]at a;clear d hg;go_enter func229,ntmps229;go_wp2;go_ret;exact⟨iC (by rw[b.out];rfl),rfl⟩
end
section
open Go.Maps
theorem aMq {L:List (eA×Nat)} {a:List eA} (e:L.map (·.1)=a) (k:ByteArray):zB (·.name) k a=(zB (fun p:eA×Nat=>p.1.name) k L).map (·.1):=by
 subst e;exact eQ (key:=fun p:eA×Nat=>p.1.name) (key':=(·.name)) (·.1) (fun _=>rfl) k L
theorem ks {w:World} {c M:Nat} {D:DataW Unit} {m:ByteArray} {n:Nat} (h:w.ownsMap prog 9 (plainElem prog 3) c M D) (d:D.atKey (kL m) (qG 0)=qG n) (e:m.size<=maxLen):
 (Instr.lookup 181 (.map (some c)) (.string m) false).run prog w=.ok (.int .i64 n) w:=by
 obtain⟨v,a,b,_⟩:=h.lookup_int vJ underlying181 underlying3 (MZ _) (sK e);rw[a];have:(qG v:DataW Unit)=qG n:=b.symm.trans d;simp[qG]at this;rw[this]
end
section
open Go.Maps
theorem AP (s:ByteArray) (w:World) (j:s.size<=1000000000) (d:dF w):Calls prog 231 #[.string s] w fun e c=>e=.returned (.bool (s.toList.isEmpty||lE s))/\Below w.heap.size w c:=by
 have h:Hid (Calls prog 215 #[.string s] w fun e c=>e=.returned (.bool (lE s))/\Below w.heap.size w c):=xT s w j d;clear d;by_cases b:s.toList.isEmpty=true
 ·have a:Hid ((s.toList.isEmpty||lE s)=true):=by show _=_;rw[b];rfl
  go_enter func231,ntmps231;go_wp2;go_ret;exact⟨kA (by rw[a.out]),Below.refl _ _⟩
 ·have i:s.toList.isEmpty=false:=by simpa using b
  have a:Hid ((s.toList.isEmpty||lE s)=lE s):=by show _=_;rw[i];rfl
  clear b;go_enter func231,ntmps231;go_wp2_with fail;refine h.out.mono ?_;rintro e k ⟨rfl,f⟩;have g:=bA f;clear f;go_wp2;go_ret;exact⟨kA (by rw[a.out]),g.out⟩
end
section
open Go.Maps
theorem gA.mapped {w a:World} {b:Nat} (h:w.mapTurned a b):gA (·=b) w a:=(gA.grown h.grown).mono fun i _ e=>by simp only[Ja]at e;exact e.symm
theorem qP.newLimit {w j:World} {S:Nat->Prop} {x:Nat} {t:eA} {M f i c:Nat} {d:Value} {Q:List (fA×Nat)} {l:List gG} {D:DataW Unit} {a:Int} (h:qP w S x t M f i c d Q l D) (b:gA (·=x) w j)
 (m:lA j x #[.int .i64 a,.map (some f),.map (some i),.map (some c),d] 187):lC j S x ⟨t.name,a,t.m9,t.s9⟩ M:=by
 refine⟨f,i,c,d,Q,l,D,?_⟩;exact { h with
  blk:=m
  lims:=b.map h.lims (uB h.lims h.blk)
  s9:=b.map h.s9 (uB h.s9 h.blk)
  cnts:=b.map h.cnts (uB h.cnts h.blk)
  cells:=fun q k=>b.blk (h.cells q k) (h.dx q k)
  row:=b.row h.row (fun g n e=>(h.di g n).1 e) }
theorem aJk (x:Nat) (b:ByteArray) (a:Int) (t:eA) (S:Nat->Prop) (M:Nat) (w:World) (h:lC w S x t M) (H:b.size<=maxLen) (F : -1<=a) (G:a<=1000000) (y:t.m9.length<=1000000000):
 Calls prog 232 #[.pointer (some ⟨x,0,none⟩),.string b,.int .i64 a] w fun e A=>e=.returned (.tuple #[])/\lC A S x (jG t b a) M/\gA S w A:=by
 obtain⟨r,J,B,I,Q,O,D,h⟩:=h;by_cases k:b.toList.isEmpty=true
 ·have j:Hid (jG t b a=⟨t.name,a,t.m9,t.s9⟩):=by show _=_;unfold jG;rw[Ga k]
  have K:w.cell? ⟨x,0,none⟩=some (.int .i64 t.l9):=h.blk.cell 0;have N:=h.blk.free 0;have f:gA (·=x) w (w.setCell ⟨x,0,none⟩ (.int .i64 a)):=(gA.refl (·=x) w).setCell (Ba rfl) 0 _;have v:lA (w.setCell ⟨x,0,none⟩ (.int .i64 a)) x #[.int .i64 a,.map (some r),.map (some J),.map (some B),I] 187:=by have:=h.blk.set 0 (.int .i64 a);simpa using this
  have HN:Hid (lC (w.setCell ⟨x,0,none⟩ (.int .i64 a)) S x (jG t b a) M):=by
   refine bA ?_;rw[j.out];exact h.newLimit f v
  have l:Hid (gA S w (w.setCell ⟨x,0,none⟩ (.int .i64 a))):=f.mono fun i _ e=>by subst e;exact h.sx
  clear h f v j;go_enter func232,ntmps232;go_wp2;go_end0;exact⟨rfl,HN.out,l.out⟩
 have C:b.toList.isEmpty=false:=by simpa using k
 have L:w.cell? ⟨x,1,none⟩=some (.map (some r)):=h.blk.cell 1;have u:Hid _:=sK H;by_cases E:a = -1
 ·have j:Hid (jG t b a={ t with m9:=tD (·.s) b t.m9}):=by show _=_;unfold jG;rw[Ca k,Ga (by omega)]
  have q:=bA h;clear k h;subst E;go_enter func232,ntmps232;go_wp2_with(at_delete;refine wpList_delete_own _ rfl _ _ 181 9 rfl 3 vJ underlying181 (plainElem prog 3) r _ _ rfl q.out.lims _ _ rfl u.out ?_;intro o d c);have f:=gA.mapped c;have HN:Hid (lC o S x (jG t b (-1)) M):=by
   refine bA ?_;rw[j.out];exact q.out.newLims f d (YT (key:=fun p:fA=>p.s) (fun p=>qG p.n) b t.m9) (iN q.out.rm)
  have l:Hid (gA S w o):=f.mono fun i _ e=>by subst e;exact q.out.sl
  clear d c f;go_end0;exact⟨rfl,HN.out,l.out⟩
 ·have j:Hid (jG t b a={ t with m9:=qA (·.s) ⟨b,a⟩ t.m9}):=by show _=_;unfold jG;rw[Ca k,Ca (by omega)]
  obtain⟨o,z,g,m⟩:=h.lims.store vJ underlying181 (by unfold maxLen;omega) (val:=.int .i64 a) u.out (plainElem_int underlying3 (WalkArith.wf_i64 (by omega)));have f:=gA.mapped m;have HN:Hid (lC o S x (jG t b a) M):=by
   refine bA ?_;rw[j.out];exact h.newLims f g (IM (key:=fun p:fA=>p.s) (fun p=>qG p.n) ⟨b,a⟩ h.rm) (dI h.rm)
  have l:Hid (gA S w o):=f.mono fun i _ e=>by subst e;exact h.sl
  clear h g m f j k;go_enter func232,ntmps232;go_wp2;go_end0;exact⟨rfl,HN.out,l.out⟩
theorem OX (l m:Nat) (c:nB) (b:Int) (B:Nat->Prop) (T:Nat->Option Nat) (L:List (eA×Nat)) (M:Nat) (w:World) (h:gJ w B T l m c b L M):
 Calls prog 228 #[.pointer (some ⟨l,0,none⟩)] w fun e i=>e=.returned (.bool (decide (10000<=L.length)))/\i=w:=by
 have j:w.cell? ⟨l,7,none⟩=some (.map (some m)):=h.blk.cell 7;have g:=h.ten.len underlying144 3;rw[fL]at g;clear h;by_cases d:10000<=L.length
 ·have a:Hid (decide (10000<=L.length)=true):=by show _=_;simpa using d
  generalize L.length=z at *;have f:¬((z:Int)<10000):=by omega
  go_enter func228,ntmps228;go_wp2;go_ret;exact⟨kA (by first|(rw[a.out];simp;omega)|(simp;omega)|simp),rfl⟩
 ·have a:Hid (decide (10000<=L.length)=false):=by show _=_;simpa using d
  generalize L.length=z at *;have f:(z:Int)<10000:=by omega
  go_enter func228,ntmps228;go_wp2;go_ret;exact⟨kA (by first|(rw[a.out];simp;omega)|(simp;omega)|simp),rfl⟩
theorem jQ {α β:Type} {f:α->β} {l:List α} (h:(l.map f).Nodup) {p q:α} (d:p∈l) (g:q∈l) (e:f p=f q):p=q:=by
 induction l with
 |nil=>cases d
 |cons a r i=>
  rw[Sb,List.nodup_cons]at h;rcases Cb.1 d with c|c
  ·rcases Cb.1 g with b|b
   ·rw[c,b]
   ·refine absurd ?_ h.1;rw[<-c,e];exact Uc.2 ⟨q,b,rfl⟩
  ·rcases Cb.1 g with b|b
   ·refine absurd ?_ h.1;rw[<-b,<-e];exact Uc.2 ⟨p,c,rfl⟩
   ·exact i h.2 c b
theorem xh {w v t:World} {B:Nat->Prop} {T:Nat->Option Nat} {l m n:Nat} {c:nB} {r:Int} {L:List (eA×Nat)} {M M':Nat} {p:eA×Nat} {t':eA} (h:gJ w B T l m c r L M) (F:∀g,w.heap.size<=g->B g) (z:p∈L) (y:t'.name=p.1.name)
 (A:gA (fun g=>B g/\T g=some p.2) w v) (H:lC v (fun g=>(B g/\T g=some p.2)\/w.heap.size<=g) p.2 t' M') (G:M<=M') (C:gA (·=m) v t)
 (s:t.ownsMap prog 9 kD m n (DataW.put (oC (L.map fun p=>(p.1.name,eE p.2))) (kL t'.name) (eE p.2))):
 yD t B l m c r ((qA (fun p:eA×Nat=>p.1.name) (t',p.2) L).map (·.1)) M':=by
 have x:=aA h.blk;have I:=h.ten.lt;have J:=A.size;have o:DataW.put (oC (L.map fun p=>(p.1.name,eE p.2))) (kL t'.name) (eE p.2)=oC ((qA (fun p:eA×Nat=>p.1.name) (t',p.2) L).map fun p=>(p.1.name,eE p.2)):=
  IM (key:=fun p:eA×Nat=>p.1.name) (fun p=>eE p.2) (t',p.2) h.rise
 have u:∀q∈L,q.1.name≠t'.name->q.2≠p.2:=fun q j f e=>by
  have:=jQ h.nd j z e;rw[this,y]at f;exact f rfl
 have d:∀g,g<w.heap.size->¬(B g/\T g=some p.2)->g≠m->t.heap[g]?=w.heap[g]?:=fun g i D E=>by
  rw[C.block g (by omega) E,A.block g i D]
 refine⟨fun g=>if g<w.heap.size then T g else some p.2,_,?_,rfl⟩;exact {
  blk:=(d l x (fun e=>by rw[h.tl]at e;cases e.2) h.lm.symm).trans h.blk
  ten:=by
   have:=SA s;rw[o,fL]at this;exact this
  rise:=dI h.rise
  idx:=fun q j=>by
   rcases ZX h.rise j with rfl|⟨j,f⟩
   ·refine H.keep fun g i b=>⟨C.block g i (fun e=>?_),?_,?_⟩
    ·subst e;rcases b with b|b
     ·rw[h.tm]at b;cases b.2
     ·omega
    ·exact b.elim Me (F g)
    ·show(if g<w.heap.size then T g else some p.2)=some p.2;by_cases k:g<w.heap.size
     ·rw[Ga k];rcases b with b|b
      ·exact b.2
      ·omega
     ·rw[Ca k]
   ·refine((h.idx q j).mono G).keep fun g i b=>⟨d g i (fun e=>?_) (fun e=>by rw[e,h.tm]at b;cases b.2),b.1,?_⟩
    ·have:=u q j f;rw[e.2]at b;exact this (Qc b.2).symm
    ·show(if g<w.heap.size then T g else some p.2)=_;rw[Ga i];exact b.2
  nd:=by
   rw[DM (key:=fun p:eA×Nat=>p.1.name) (a:=(t',p.2)) (·.2) h.rise z y.symm rfl];exact h.nd
  tl:=by show(if l<w.heap.size then T l else _)=none;rw[Ga x];exact h.tl
  tm:=by show(if m<w.heap.size then T m else _)=none;rw[Ga I];exact h.tm
  lB:=h.lB
  mB:=h.mB}
theorem xg {w x o:World} {B:Nat->Prop} {T:Nat->Option Nat} {l m n:Nat} {c:nB} {d:Int} {L:List (eA×Nat)} {M:Nat} {k:ByteArray} {S:Nat->Prop} (h:gJ w B T l m c d L M) (A:∀g,S g->∀q∈L,q.1.name≠k->T g≠some q.2) (r:∀g,g<w.heap.size->S g->T g≠none)
 (v:gA S w x) (C:gA (·=m) x o) (f:o.ownsMap prog 9 kD m n (DataW.del (oC (L.map fun p=>(p.1.name,eE p.2))) (kL k))):
 yD o B l m c d ((tD (fun p:eA×Nat=>p.1.name) k L).map (·.1)) M:=by
 have u:=aA h.blk;have D:=v.size;have b:DataW.del (oC (L.map fun p=>(p.1.name,eE p.2))) (kL k)=oC ((tD (fun p:eA×Nat=>p.1.name) k L).map fun p=>(p.1.name,eE p.2)):=
  YT (key:=fun p:eA×Nat=>p.1.name) (fun p=>eE p.2) k L
 have a:∀g,g<w.heap.size->¬S g->g≠m->o.heap[g]?=w.heap[g]?:=fun g s y z=>by
  rw[C.block g (by omega) z,v.block g s y]
 refine⟨T,_,?_,rfl⟩;exact {
  blk:=(a l u (fun e=>r l u e h.tl) h.lm.symm).trans h.blk
  ten:=by
   have:=SA f;rw[b,fL]at this;exact this
  rise:=iN h.rise
  idx:=fun q i=>by
   obtain⟨i,t⟩:=gQ.1 i;exact(h.idx q i).keep fun g s j=>⟨a g s (fun e=>A g e q i t j.2) (fun e=>by rw[e,h.tm]at j;cases j.2),j⟩
  nd:=h.nd.sublist (List.Sublist.map _ Qg)
  tl:=h.tl
  tm:=h.tm
  lB:=h.lB
  mB:=h.mB}
theorem rk {L:List (eA×Nat)} {k:ByteArray}:zB (·.name) k (L.map (·.1))=(zB (fun p:eA×Nat=>p.1.name) k L).map (·.1):=aMq rfl k
end
section
open Go.Maps
theorem aHk {H:Type} {P:Program} {w:World} {k:TypeId} {R:Value->Option (DataW H×List MemPlace)} {b n:Nat} {D:DataW H} (h:w.ownsMap P k R b n D):Maps.size D<=n:=by
 obtain⟨d,a,e,F,c,rfl⟩:=h;rw[size_eq,length_sorted,Ua,Og];exact c
theorem xj {H:Type} {P:Program} {w:World} {k:TypeId} {R:Value->Option (DataW H×List MemPlace)} {b n l:Nat} {D e:DataW H} (h:w.ownsMap P k R b n D) (g:w.ownsMap P k R b l e):D=e:=by
 obtain⟨o,d,i,F,p,rfl⟩:=h;obtain⟨f,c,a,m,j,rfl⟩:=g;rw[i]at a;simp only[Ja,Obj.map.injEq]at a;rw[a.1]
theorem aHj {w:World} {b n M:Nat} {D:DataW Unit} {m:ByteArray} {c d:Int} (h:w.ownsMap prog 9 (plainElem prog 3) b n (D.put (kL m) (qG d))) (g:Tidy D) (f:Maps.size D<=M) (a:D.atKey (kL m) (qG 0)=qG c) (i:c≠0):w.ownsMap prog 9 (plainElem prog 3) b M (D.put (kL m) (qG d)):=by
 have hh:has D (kL m)=true:=by
  cases e:has D (kL m) with
  |true=>rfl
  |false=>
   rw[atKey_of_not_has e]at a;simp[qG]at a;exact absurd a.symm i
 have:=SA h;rw[Maps.size_put g,hh,Ga rfl]at this;exact this.mono f
structure NB (w w1:World) (x:Nat) (lim:Int) (lm sm cm:Nat) (iv iv':Value) (hs:List gG):Prop where
 blk:lA w1 x #[.int .i64 lim,.map (some lm),.map (some sm),.map (some cm),iv'] 187
 row:w1.ownsRow 0 320 2 iv' (hs.length-1) (mI (zM hs))
 same:iv'.ownBlock=iv.ownBlock
 turn:gA (fun k=>k=x∨iv.ownBlock=some k) w w1
theorem qP.top {w:World} {S:Nat->Prop} {x:Nat} {t:eA} {M i j d:Nat} {g:Value} {Q:List (fA×Nat)} {a:List gG} {D:DataW Unit} (h:qP w S x t M i j d g Q a D) (c:0<a.length):∃q∈Q,q.2=(hget a 0).b:=by
 have:(hget a 0).b∈Q.map (·.2):=h.perm.mem_iff.1 (Uc.2 ⟨hget a 0,by rw[DA c];exact Db c,rfl⟩);obtain⟨q,f,e⟩:=Uc.1 this;exact⟨q,f,e⟩
theorem aCp {a:List gG} {Q:List (fA×Nat)} {q:fA×Nat} (hh:kJ a) (d:0<a.length) (h:(a.map (·.b)).Perm (Q.map (·.2))) (c:vB (fun q:fA×Nat=>q.1.s) Q) (i:q∈Q) (g:q.2=(hget a 0).b):
 ((zM a).map (·.b)).Perm ((tD (fun q:fA×Nat=>q.1.s) q.1.s Q).map (·.2)):=by
 obtain⟨_,j,_⟩:=qN hh d;have e:(q.2::(zM a).map (·.b)).Perm (Q.map (·.2)):=by
  rw[g];exact(j.map (·.b)).trans h
 have f:(q.2::(tD (fun q:fA×Nat=>q.1.s) q.1.s Q).map (·.2)).Perm (Q.map (·.2)):=(OB c i).map (fun q:fA×Nat=>q.2);exact(List.perm_cons _).1 (e.trans f.symm)
theorem qP.dropped {w V u:World} {S:Nat->Prop} {x:Nat} {t:eA} {M J r o n:Nat} {I z:Value} {Q:List (fA×Nat)} {y:List gG} {D:DataW Unit} {q:fA×Nat} {c:Nat} (h:qP w S x t M J r o I Q y D) (T:0<y.length) (U:q∈Q) (Z:q.2=(hget y 0).b)
 (i:NB w V x t.l9 J r o I z y) (C:gA (fun k=>k=r\/k=o) V u) (A:u.ownsMap prog 9 kD r n (DataW.del (oC (Q.map fun q=>(q.1.s,eE q.2))) (kL q.1.s)))
 (B:u.ownsMap prog 9 (plainElem prog 3) o M (D.put (kL (tC q.1.s)) (qG c))) (hc:pH tC t.s9 (tC q.1.s)=c+1):
 qP u S x ⟨t.name,t.l9,t.m9,tD (·.s) q.1.s t.s9⟩ M J r o z (tD (fun q:fA×Nat=>q.1.s) q.1.s Q) (zM y) (D.put (kL (tC q.1.s)) (qG c))/\gA S w u:=by
 have P:=uB h.s9 h.blk;have R:=uB h.cnts h.blk;have O:=uB h.lims h.blk;have K:=wE h.lims h.row;have L:=wE h.s9 h.row;have N:=wE h.cnts h.row;have G:vB (fun q:fA×Nat=>q.1.s) Q:=by
  rw[<-lR (key':=fun p:fA=>p.s) (fun q:fA×Nat=>q.1) (fun _=>rfl),h.q1];exact h.rs
 obtain⟨p1,p2,p3⟩:=qN h.heap T;have F:q.1∈t.s9:=by rw[<-h.q1];exact Pc U
 have d:∀p∈tD (fun q:fA×Nat=>q.1.s) q.1.s Q,p∈Q:=fun p i=>(gQ.1 i).1;have v:DataW.del (oC (Q.map fun q=>(q.1.s,eE q.2))) (kL q.1.s)=oC ((tD (fun q:fA×Nat=>q.1.s) q.1.s Q).map fun q=>(q.1.s,eE q.2)):=
  YT (key:=fun q:fA×Nat=>q.1.s) (fun q=>eE q.2) q.1.s Q
 have l:∀g,¬(g=x\/I.ownBlock=some g)->¬(g=r\/g=o)->g<w.heap.size->u.heap[g]?=w.heap[g]?:=fun g X Y j=>by
  rw[C.block g (by have:=i.turn.size;omega) Y,i.turn.block g j X]
 refine⟨?_,?_⟩
 ·exact {
   blk:=C.blk i.blk (fun e=>by rcases e with e|e;exact P e.symm;exact R e.symm)
   lims:=C.map (i.turn.map h.lims (fun e=>by rcases e with e|e;exact O e;exact K e)) (fun e=>by rcases e with e|e;exact h.d1 e;exact h.d2 e)
   s9:=by
    have:=SA A;rw[v,fL]at this;exact this
   cnts:=B
   cnt:=fun m=>by
    have E:=ft (met:=tC) h.rs F m;by_cases e:tC q.1.s=m
    ·rw[Ga e]at E;rw[<-e,atKey_put_same (k:=kL (tC q.1.s)) h.cnts.isMap trivial];rw[<-e]at E;have:pH tC (tD (·.s) q.1.s t.s9) (tC q.1.s)=c:=by omega
     rw[this]
    ·rw[Ca e]at E;rw[atKey_put_other (fun W=>e (aFs W).symm),h.cnt m,E];rfl
   q1:=by rw[lY (key':=fun p:fA=>p.s) (fun q:fA×Nat=>q.1) (fun _=>rfl),h.q1]
   cells:=fun p a=>by
    have f:=d p a;refine(l p.2 (fun e=>?_) (fun e=>?_) (aA (h.cells p f))).trans (h.cells p f)
    ·rcases e with e|e
     ·exact h.dx p f e
     ·exact(h.di _ e).2 p f rfl
    ·rcases e with e|e
     ·exact uB h.s9 (h.cells p f) e.symm
     ·exact uB h.cnts (h.cells p f) e.symm
   row:=by
    rw[p3];exact C.row i.row (fun g j e=>by
     rw[i.same]at j;rcases e with rfl|rfl
     ·exact L j
     ·exact N j)
   heap:=p1
   perm:=aCp h.heap T h.perm G U Z
   early:=fun s H p a e=>h.early s (p2.mem_iff.1 (Za _ H)) p (d p a) e
   rm:=h.rm
   rs:=iN h.rs
   sx:=h.sx
   sl:=h.sl
   ss:=h.ss
   sc:=h.sc
   sq:=fun p a=>h.sq p (d p a)
   si:=fun g j=>h.si g (by rw[<-i.same];exact j)
   d1:=h.d1
   d2:=h.d2
   d3:=h.d3
   nd:=h.nd.sublist (List.Sublist.map _ Qg)
   dx:=fun p a=>h.dx p (d p a)
   di:=fun g j=>⟨(h.di g (by rw[<-i.same];exact j)).1,fun p a=>(h.di g (by rw[<-i.same];exact j)).2 p (d p a)⟩ }
 ·refine(i.turn.mono fun k _ e=>by rcases e with rfl|e;exact h.sx;exact h.si _ e).trans' (C.mono fun k _ e=>?_);rcases e with rfl|rfl
  ·exact h.ss
  ·exact h.sc
theorem qP.again {w N o:World} {S:Nat->Prop} {x:Nat} {t:eA} {M v y r:Nat} {E m:Value} {Q:List (fA×Nat)} {f:List gG} {D:DataW Unit} {q:fA×Nat} {g j B:Nat} (h:qP w S x t M v y r E Q f D) (T:0<f.length) (A:q∈Q) (V:q.2=(hget f 0).b)
 (u:NB w N x t.l9 v y r E m f)
 (z:lA o x #[.int .i64 t.l9,.map (some v),.map (some y),.map (some r),.slice (some ⟨g,0,none⟩) ((zM f).length+1) j] 187)
 (C:o.ownsRow 0 320 2 (.slice (some ⟨g,0,none⟩) ((zM f).length+1) j) ((zM f).length+1) (mI (pP (zM f) ⟨q.2,q.1.n⟩))) (n:m.ownBlock=some g\/N.heap.size<=g) (t4:gA (fun k=>k=x\/m.ownBlock=some k) N o) (hB:B<=w.heap.size) (U:∀g,B<=g->w.heap.size<=g->S g):
 qP o S x t M v y r (.slice (some ⟨g,0,none⟩) ((zM f).length+1) j) Q (pP (zM f) ⟨q.2,q.1.n⟩) D/\gA S w o:=by
 have J:=uB h.s9 h.blk;have K:=uB h.cnts h.blk;have I:=uB h.lims h.blk;have F:=wE h.lims h.row;have G:=wE h.s9 h.row;have H:=wE h.cnts h.row;obtain⟨Y,O,p3⟩:=qN h.heap T;obtain⟨Z,P,r3⟩:=BF Y ⟨q.2,q.1.n⟩;have W:=u.turn.size;have i:=u.turn.trans' (t4.mono fun k _ e=>by rw[<-u.same];exact e);have L:=fun q A=>aA (h.cells q A);have X:=aA h.blk;have d:E.ownBlock=some g\/w.heap.size<=g:=by
  rcases n with e|e
  ·exact Ba (by rw[<-u.same];exact e)
  ·exact Ea (by omega)
 refine⟨?_,?_⟩
 ·exact { h with
   blk:=z
   lims:=i.map h.lims (fun e=>by rcases e with e|e;exact I e;exact F e)
   s9:=i.map h.s9 (fun e=>by rcases e with e|e;exact J e;exact G e)
   cnts:=i.map h.cnts (fun e=>by rcases e with e|e;exact K e;exact H e)
   cells:=fun p a=>i.blk (h.cells p a) (fun e=>by
    rcases e with e|e
    ·exact h.dx p a e
    ·exact(h.di _ e).2 p a rfl)
   row:=by rw[r3];exact C
   heap:=Z
   perm:=by
    refine(P.map _).trans ?_;rw[Sb];show(q.2::(zM f).map (·.b)).Perm _;rw[V];exact(O.map (·.b)).trans h.perm
   early:=fun s l p a e=>by
    rcases Cb.1 (P.mem_iff.1 l) with rfl|l
    ·have:=jQ h.nd a A e;rw[this];exact Pd _
    ·exact h.early s (O.mem_iff.1 (Za _ l)) p a e
   si:=fun R c=>by
    simp only[Value.ownBlock,Ja]at c;subst c;rcases d with e|e
    ·exact h.si g e
    ·exact U g (by omega) e
   di:=fun R c=>by
    simp only[Value.ownBlock,Ja]at c;subst c;rcases d with e|e
    ·exact h.di g e
    ·exact⟨by omega,fun p a=>by have:=L p a;omega⟩ }
 ·exact i.mono fun k _ e=>by
   rcases e with rfl|e
   ·exact h.sx
   ·exact h.si _ e
theorem kh {a:List gG} {u:Int} (hh:kJ a) (b:0<a.length) (c:(hget a 0).t<=u):(zM a).countP (fun s=>decide (s.t<=u))+1=a.countP (fun s=>decide (s.t<=u)):=by
 obtain⟨_,d,_⟩:=qN hh b;rw[<-d.countP_eq,List.countP_cons_of_pos (by simpa using c)]
theorem aBn {a:List gG} {u:Int} {s:gG} (hh:kJ a) (b:u<s.t):(pP a s).countP (fun s=>decide (s.t<=u))=a.countP (fun s=>decide (s.t<=u)):=by
 obtain⟨_,c,_⟩:=BF hh s;rw[c.countP_eq,List.countP_cons_of_neg (by simp;omega)]
theorem aGk {R:Nat->Prop} (h:∃n,R n):∃m,R m/\∀k,R k->m<=k:=by
 obtain⟨n,d⟩:=h;induction n using Nat.strongRecOn with
 |_ n e=>
  by_cases a:∃k,k<n/\R k
  ·obtain⟨k,a,c⟩:=a;exact e k a c
  ·exact⟨n,d,fun k c=>Nat.le_of_not_lt fun b=>a ⟨k,b,c⟩⟩
end
