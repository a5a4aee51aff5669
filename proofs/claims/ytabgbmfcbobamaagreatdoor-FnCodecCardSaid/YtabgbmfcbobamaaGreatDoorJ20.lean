import Derived.Test.YtabgbmfcbobamaaGreatDoorJ18
import Derived.Test.YtabgbmfcbobamaaGreatDoorJ19
set_option maxRecDepth 100000
set_option maxHeartbeats 4000000
namespace Go.Proofs.YtabgbmfcbobamaaGreatDoor
open Go.RowKit Tryz
theorem JX (a:ByteArray):(dE a).1.length<=16:=by
 cases hd:(dE a).2 with
 |true=>exact JK (SR hd).1
 |false=>rw[(IM hd).1];simp
theorem YG (b:ByteArray) (w:World) (r:b.size<=1000000000) (l:xI w):
 Calls prog 163 #[.string b] w fun e d=>e=.returned (.string (gI (dE b).1))/\Below w.heap.size w d:=by
 have s:=JX b;have j:Hid (Calls prog 168 #[.string b] w fun e d=>∃a c,e=.returned (.tuple #[.slice a (dE b).1.length c,.bool (dE b).2])/\gC d w.heap.size a (dE b).1/\Below w.heap.size w d):=YF b w r l;clear l;generalize (dE b).1=L at *;generalize (dE b).2=p at *;generalize k:gI L=M;have o:Hid _:=k;clear k;go_enter func163,ntmps163;go_wp2_with fail;refine j.out.mono ?_;rintro e i ⟨a,c,rfl,h,f⟩;have q:Hid (Calls prog 169 #[.slice a L.length c] i fun e d=>e=.returned (.string M)/\Below i.heap.size i d):=by
  have:=BL a c L i h.labs (by omega);rw[o.out]at this;exact this
 have m:Hid _:=f;clear h f j;go_wp2_with fail;refine q.out.mono ?_;rintro e t ⟨rfl,g⟩;have n:Hid _:=nA m.out g;clear g;go_wp2;go_ret;exact⟨rfl,n.out⟩
theorem nW (c:ByteArray) (w:World) (A:c.size<=1000000000):
 Calls prog 144 #[.string c] w fun e q=>e=.returned (.string (gI (dE c).1))/\Below w.heap.size w q:=by
 have H:=JX c;have v:Hid (Calls prog 146 #[.string c] w fun e q=>∃a h,e=.returned (.tuple #[.slice a (dE c).1.length h,.bool (dE c).2])/\gC q w.heap.size a (dE c).1/\Below w.heap.size w q):=GK c w A;generalize (dE c).1=d at *;generalize (dE c).2=p at *;go_enter func144,ntmps144;go_wp2_with fail;refine v.out.mono ?_;rintro e t ⟨a,h,rfl,l,j⟩;have z:Hid (sC t a d):=l.labs;have u:Hid _:=j;clear l j v;go_wp2;go_loopw [6,14] (fun _ i wr=>∃k:Nat,k<=d.length/\i=.int .i64 k/\Hid (gI d=gI (d.drop k))/\Below t.heap.size t wr) (fun _ i _=>d.length-(intOf i).toNat)
 case atStart=>exact⟨0,La _,rfl,rfl,Below.refl _ _⟩
 case round=>
  obtain⟨k,G,rfl,r,f⟩:=hrel;by_cases m:k<d.length
  ·obtain⟨b,o,rfl,F,C,D⟩:=(z.out.later f).at m;have n:=QC d k m;have x:Hid (eM d[k]=(d[k].name.toList==[95,95,110,97,109,101,95,95])):=by show _=_;rw[eM,LI]
   generalize d[k].name=y at *;by_cases g:eM d[k]=true
   ·have s:(y.toList==[95,95,110,97,109,101,95,95])=true:=by rw[<-x.out];exact g
    have E:Hid (gI d=d[k].value):=by show _=_;rw[r.out,n,Qa g]
    clear n g;generalize d[k].value=B at *;go_wp2;go_ret;exact⟨by rw[E.out];rfl,nA u.out (nA f (cA _ _))⟩
   ·have s:(y.toList==[95,95,110,97,109,101,95,95])=false:=by rw[<-x.out];simpa using g
    have E:Hid (gI d=gI (d.drop (k+1))):=by show _=_;rw[r.out,n,Oa g]
    clear n g;generalize d[k].value=B at *;go_wp2;exact⟨⟨k+1,by omega,by go_num,E.out,nA f (cA _ _)⟩,by simp[intOf];omega⟩
  ·have E:Hid (gI d=ByteArray.empty):=by
    show _=_;rw[r.out,Ac (by omega)];rfl
   go_wp2;go_ret;exact⟨by rw[E.out];rfl,nA u.out f⟩
theorem aFb (c:UInt8):okM [45] c=okT c:=by
 have e:decide (0<=Lib.indexByte [45] c)=(c==45):=by
  by_cases h:c=45
  ·subst h;rfl
  ·have a:((45:UInt8)==c)=false:=by simpa using fun e=>h e.symm
   have b:(c==45)=false:=by simpa using h
   simp[Lib.indexByte,a,b]
 rw[okM,okT,e]
theorem co (s:ByteArray):jU s 32 ⟨#[45]⟩=yB s:=by
 have e:=funext aFb;rw[jU,yB,e];congr 2;rw[Sb];simp;omega
theorem DP (s:ByteArray) (w:World) (b:s.size<=maxLen):Calls prog 151 #[.string s] w fun e a=>e=.returned (.bool (yB s))/\a=w:=by
 have H:Hid _:=fun W=>co s ▸ YT s 32 ⟨#[45]⟩ W b;generalize yB s=R at *;go_enter func151,ntmps151;go_wp2_with fail;refine(H.out _).mono ?_;rintro e a ⟨rfl,hw⟩;replace hw:=hw.symm;subst hw;go_wp2;go_ret;exact⟨rfl,rfl⟩
theorem aBa (c:UInt8):okT c=decide ((97<=(c.toNat:Int)/\(c.toNat:Int)<=122)\/(48<=(c.toNat:Int)/\(c.toNat:Int)<=57)\/(c.toNat:Int)=45):=by
 have a:(c==45)=decide (c.toNat=45):=by rw[Sb];simp[<-UInt8.toNat_inj]
 rw[Sb];simp[okT,a,Jf];omega
theorem bE (s:ByteArray) (w:World) (n:s.size<=maxLen):
 Calls prog 81 #[.string s] w fun e j=>e=.returned (.bool (yB s))/\j=w:=by
 unfold maxLen at n;by_cases c:1<=s.size/\s.size<=32
 ·have m:xA (s.size:Int) 1 32=true:=by unfold xA;simp;omega
  have g:Hid (yB s=s.data.toList.all okT):=by show _=_;simp[yB,c.1,c.2]
  have p:=c.1;have q:=c.2;clear c;go_enter func81,ntmps81;go_wp2_with(go_at_call 25;refine(hC _ _ _ _).mono ?_;rintro e j ⟨rfl,rfl⟩);go_loop [3,4] (fun i _=>∃k:Nat,k<=s.size/\i=.int .i64 k/\(s.data.toList.take k).all okT=true) (fun i _=>s.size-(intOf i).toNat)
  case atStart=>exact⟨0,La _,rfl,by simp⟩
  case round=>
   obtain⟨k,o,rfl,d⟩:=hrel;have b:Hid _:=d;clear d m;by_cases h:k<s.size
   ·have a:=yX (f:=okT) h;rw[b.out,Ce,aBa]at a;have l:Hid _:=a;clear a;go_wp2;all_goals first
     |(go_ret
       refine⟨jA ?_,rfl⟩
       rw[g.out]
       refine(iw (k:=k+1) ?_).symm
       rw[l.out,Ze]
       simp at *
       omega)
     |(refine⟨⟨k+1,by omega,by go_num,?_⟩,by simp[intOf];omega⟩
       rw[l.out,decide_eq_true_iff]
       simp at *
       omega)
   ·go_wp2;go_ret;exact⟨jA (by rw[g.out,<-b.out,Ua (by simp;omega)]),rfl⟩
 ·have m:xA (s.size:Int) 1 32=false:=by unfold xA;simp;omega
  have g:Hid (yB s=false):=by show _=_;simp[yB];omega
  go_enter func81,ntmps81;go_wp2_with(go_at_call 25;refine(hC _ _ _ _).mono ?_;rintro e j ⟨rfl,rfl⟩);go_ret;exact⟨jA g.out.symm,rfl⟩
theorem DN (s:ByteArray) (w:World) (h:s.size<=1000000000) (d:xI w):Calls prog 162 #[.string s] w fun e b=>e=.returned (.bool (cE s))/\Below w.heap.size w b:=by
 have H:Hid (Calls prog 167 #[.string s] w fun e b=>e=.returned (.int .i64 (dN s:Nat))/\Below w.heap.size w b):=FP s w h d;have c:Hid (cE s=(!s.toList.isEmpty&&decide (dN s=0))):=rfl;clear d;generalize dN s=v at *;by_cases a:s.toList.isEmpty=true
 ·go_enter func162,ntmps162;go_wp2;go_ret;exact⟨jA (by rw[c.out,a];rfl),Below.refl _ _⟩
 ·have f:s.toList.isEmpty=false:=by simpa using a
  clear a;go_enter func162,ntmps162;go_wp2_with fail;refine H.out.mono ?_;rintro e i ⟨rfl,g⟩;go_wp2;go_ret;exact⟨jA (by rw[c.out,f];rw[Sb];simp),g⟩
theorem aJ (s:ByteArray) (w:World) (g:s.size<=1000000000):Calls prog 120 #[.string s] w fun e b=>e=.returned (.bool (cE s))/\Below w.heap.size w b:=by
 have H:Hid (Calls prog 145 #[.string s] w fun e b=>e=.returned (.int .i64 (dN s:Nat))/\Below w.heap.size w b):=GM s w g;have c:Hid (cE s=(!s.toList.isEmpty&&decide (dN s=0))):=rfl;generalize dN s=v at *;by_cases a:s.toList.isEmpty=true
 ·go_enter func120,ntmps120;go_wp2;go_ret;exact⟨jA (by rw[c.out,a];rfl),Below.refl _ _⟩
 ·have d:s.toList.isEmpty=false:=by simpa using a
  clear a;go_enter func120,ntmps120;go_wp2_with fail;refine H.out.mono ?_;rintro e h ⟨rfl,f⟩;go_wp2;go_ret;exact⟨jA (by rw[c.out,d];rw[Sb];simp),f⟩
theorem aAr {a:ByteArray} (h:(dE a).2=false):(gI (dE a).1).toList.isEmpty=true:=by rw[(IM h).1];simp[gI]
theorem DU (s:ByteArray) (w:World) (i:s.size<=1000000000):Calls prog 121 #[.string s] w fun e f=>e=.returned (.bool (eI s))/\Below w.heap.size w f:=by
 have d:Hid (Calls prog 146 #[.string s] w fun e f=>∃a c,e=.returned (.tuple #[.slice a (dE s).1.length c,.bool (dE s).2])/\gC f w.heap.size a (dE s).1/\Below w.heap.size w f):=GK s w i;have k:Hid _:=fun W=>nW s W i;have h:Hid (eI s=!(gI (dE s).1).toList.isEmpty):=rfl;cases hd:(dE s).2 with
 |false=>
  have l:=aAr hd;rw[hd]at d;generalize gI (dE s).1=m at *;generalize (dE s).1=L at *;clear hd;go_enter func121,ntmps121;go_wp2_with fail;refine d.out.mono ?_;rintro e n ⟨a,c,rfl,_,b⟩;go_wp2;go_ret;exact⟨jA (by rw[h.out,l];rfl),b⟩
 |true=>
  rw[hd]at d;generalize gI (dE s).1=m at *;generalize (dE s).1=L at *;clear hd;go_enter func121,ntmps121;go_wp2_with fail;refine d.out.mono ?_;rintro e n ⟨a,c,rfl,_,b⟩;have j:Hid _:=b;clear b;go_wp2_with fail;refine(k.out _).mono ?_;rintro e o ⟨rfl,g⟩;go_wp2;go_ret;exact⟨jA (by rw[h.out]),nA j.out g⟩
theorem pZ (t:dA) (c d:Option Addr) (f g:Nat) (w:World):Calls prog 119 #[.agg #[.string t.name,.int .i64 t.l9,.slice c t.m9.length f,.slice d t.s9.length g]] w fun e i=>e=.returned (.bool (iE t))/\Below w.heap.size w i:=by
 have E:Hid (iE t=(t.l9==-1&&t.m9.length==0&&t.s9.length==0)):=rfl;generalize t.m9.length=h at *;generalize t.s9.length=j at *;generalize t.l9=L at *;by_cases a:L = -1
 ·by_cases b:h=0
  ·go_enter func119,ntmps119;go_wp2;go_ret;exact⟨jA (by rw[E.out,a,b];rw[Sb];simp),cA _ _⟩
  ·go_enter func119,ntmps119;go_wp2;go_ret;exact⟨jA (by rw[E.out,a];rw[Sb];simp[b]),cA _ _⟩
 ·go_enter func119,ntmps119;go_wp2;go_ret;exact⟨jA (by rw[E.out];rw[Sb];simp[a]),cA _ _⟩
theorem BG (x:Int) (w:World):Calls prog 152 #[.int .i64 x] w fun e a=>e=.returned (.bool (xA x (-1) 1000000))/\a=w:=by
 by_cases h:x = -1
 ·have E:Hid (xA x (-1) 1000000=true):=by show _=_;subst h;rfl
  go_enter func152,ntmps152;go_wp2_with(go_at_call 150;refine(aE _ _).mono ?_;rintro e a ⟨rfl,rfl⟩);go_ret;exact⟨jA E.out.symm,rfl⟩
 ·have E:Hid (xA x (-1) 1000000=xA x 0 1000000):=by
   show _=_;unfold xA;congr 1;rw[Sb];simp;omega
  go_enter func152,ntmps152;go_wp2_with(go_at_call 150;refine(aE _ _).mono ?_;rintro e a ⟨rfl,rfl⟩);go_ret;exact⟨jA (by rw[E.out,show(x==-1)=false by simpa using h,Bg]),rfl⟩
section
open Go.Maps Go.ChangeMaps
def TN (n:Int):DataW Unit:=.lit (.int .i64 n)
def zP (g:Nat):DataW Unit:=.lit (.int .i64 (g:Int))
def zO:Value->Option (DataW Unit×List MemPlace)
 |.pointer (some ⟨g,0,none⟩)=>some (zP g,[])
 |.pointer none=>some (.nil,[])
 |_=>none
theorem LP (g:Nat):zO (.pointer (some ⟨g,0,none⟩))=some (zP g,[]):=rfl
theorem YY:Keyed prog 9:=string_keyed underlying9
theorem UE {s:ByteArray} (h:s.size<=maxLen):keyOf prog 9 (.string s)=some (kL s):=WideMaps.keyOf_string_mk underlying9 h
theorem aDc {H:Type} {P:Program} {w:World} {k:TypeId} {R:Value->Option (DataW H×List MemPlace)} {b n:Nat} {D:DataW H} (h:w.ownsMap P k R b n D):w.ownsMap P k R b (Maps.size D) D:=by
 obtain⟨c,a,d,F,e,rfl⟩:=h;refine⟨c,a,d,F,?_,rfl⟩;rw[size_eq,length_sorted,Rb,Ue];exact Ka _
structure df (w:World) (S:Nat→Prop) (x:Nat) (t:dA) (M lm sm cm:Nat) (iv:Value) (Q:List (lA×Nat)) (hs:List tQ) (D:DataW Unit):Prop where
 blk:eA w x #[.int .i64 t.l9,.map (some lm),.map (some sm),.map (some cm),iv] 242
 lims:w.ownsMap prog 9 (plainElem prog 3) lm t.m9.length (rH (t.m9.map fun p=>(p.s,TN p.n)))
 s9:w.ownsMap prog 9 zO sm Q.length (rH (Q.map fun q=>(q.1.s,zP q.2)))
 cnts:w.ownsMap prog 9 (plainElem prog 3) cm M D
 cnt:∀m:ByteArray,D.atKey (kL m) (TN 0)=TN (wN vD t.s9 m)
 q1:Q.map (·.1)=t.s9
 cells:∀q∈Q,eA w q.2 #[.string q.1.s,.int .i64 q.1.n] 109
 row:w.ownsRow 0 248 2 iv hs.length (qJ hs)
 heap:sY hs
 perm:(hs.map (·.b)).Perm (Q.map (·.2))
 early:∀h∈hs,∀q∈Q,q.2=h.b→h.t≤q.1.n
 rm:jC (·.s) t.m9
 rs:jC (·.s) t.s9
 sx:S x
 sl:S lm
 ss:S sm
 sc:S cm
 sq:∀q∈Q,S q.2
 si:∀g,iv.ownBlock=some g→S g
 d1:lm≠sm
 d2:lm≠cm
 d3:sm≠cm
 nd:(Q.map (·.2)).Nodup
 dx:∀q∈Q,q.2≠x
 di:∀g,iv.ownBlock=some g→g≠x∧∀q∈Q,q.2≠g
def gD (w:World) (S:Nat->Prop) (x:Nat) (t:dA) (M:Nat):Prop:=∃d e a c Q b D,df w S x t M d e a c Q b D
theorem gi {w:World} {B:Nat} {e:TypeId} {size:Nat} {v:Value} {n:Nat} {f:List Value} (h:w.ownsRow B e size v n f):∀g,v.ownBlock=some g->g<w.heap.size:=by
 intro g a;rcases h.2 with⟨rfl,_⟩|⟨i,b,c,rfl,_,d,_⟩
 ·cases a
 ·simp only[Value.ownBlock,Pa]at a;subst a;exact aA d
theorem df.keep {w w':World} {S S':Nat->Prop} {x:Nat} {t:dA} {M u v m:Nat} {s:Value} {Q:List (lA×Nat)} {f:List tQ} {D:DataW Unit} (h:df w S x t M u v m s Q f D)
 (c:∀g,g<w.heap.size->S g->w'.heap[g]?=w.heap[g]?/\S' g):df w' S' x t M u v m s Q f D:=by
 have p:∀{R:Value->Option (DataW Unit×List MemPlace)} {b n:Nat} {E:DataW Unit},w.ownsMap prog 9 R b n E->S b->w'.ownsMap prog 9 R b n E:=fun {R b n E} h f=>by
  have o:=h.lt;obtain⟨A,d,i,r⟩:=h;exact⟨A,d,(c b o f).1.trans i,r⟩
 have i:∀{g:Nat} {a:Array Value} {y:TypeId},eA w g a y->S g->eA w' g a y:=fun {g a y} h f=>(c g (aA h) f).1.trans h;exact { h with
  blk:=i h.blk h.sx
  lims:=p h.lims h.sl
  s9:=p h.s9 h.ss
  cnts:=p h.cnts h.sc
  cells:=fun q k=>i (h.cells q k) (h.sq q k)
  row:=by
   refine⟨h.row.1,?_⟩;rcases h.row.2 with B|⟨g,l,a,e,C,j,r⟩
   ·exact Ca B
   ·have:s.ownBlock=some g:=by rw[e];rfl
    exact Ja ⟨g,l,a,e,C,i j (h.si g this),r⟩
  sx:=(c x (aA h.blk) h.sx).2
  sl:=(c u h.lims.lt h.sl).2
  ss:=(c v h.s9.lt h.ss).2
  sc:=(c m h.cnts.lt h.sc).2
  sq:=fun q k=>(c q.2 (aA (h.cells q k)) (h.sq q k)).2
  si:=fun g z=>(c g (gi h.row g z) (h.si g z)).2}
theorem gD.keep {w w':World} {S S':Nat->Prop} {x:Nat} {t:dA} {M:Nat} (h:gD w S x t M) (b:∀g,g<w.heap.size->S g->w'.heap[g]?=w.heap[g]?/\S' g):gD w' S' x t M:=by
 obtain⟨e,f,a,d,Q,c,D,h⟩:=h;exact⟨e,f,a,d,Q,c,D,h.keep b⟩
theorem gD.later {w a:World} {S:Nat->Prop} {x:Nat} {t:dA} {M:Nat} (h:gD w S x t M) (b:Below w.heap.size w a):gD a S x t M:=h.keep fun g c d=>⟨b.block g c,d⟩
theorem gD.lt {w:World} {S:Nat->Prop} {x:Nat} {t:dA} {M:Nat} (h:gD w S x t M):x<w.heap.size:=by
 obtain⟨d,e,a,c,Q,b,D,h⟩:=h;exact aA h.blk
theorem gD.mono {w:World} {S:Nat->Prop} {x:Nat} {t:dA} {M a:Nat} (h:gD w S x t M) (c:M<=a):gD w S x t a:=by
 obtain⟨f,g,b,e,Q,d,D,h⟩:=h;exact⟨f,g,b,e,Q,d,D,{ h with cnts:=h.cnts.mono c}⟩
theorem UO (a:Int) (o:ByteArray) (w:World):
 Calls prog 153 #[.int .i64 a] w fun e d=>∃x,e=.returned (.pointer (some ⟨x,0,none⟩))/\w.heap.size<=x/\gD d (fun g=>w.heap.size<=g) x ⟨o,a,[],[]⟩ 0/\Below w.heap.size w d:=by
 have j:=@run_makeMap prog;go_enter func153,ntmps153;go_wp2;go_ret;refine⟨w.heap.size+1+1+1,rfl,by omega,⟨w.heap.size,w.heap.size+1,w.heap.size+1+1,.slice none 0 0,[],[],.map [],?_⟩,nA (nA (nA (cA _ _) (cA _ _)) (cA _ _)) (cA _ _)⟩;have k:∀R:Value->Option (DataW Unit×List MemPlace),(w.alloc (.map #[] 0)).ownsMap prog 9 R w.heap.size 0 (.map []):=fun R=>World.ownsMap_made w _ _ R;have l:∀R:Value->Option (DataW Unit×List MemPlace),((w.alloc (.map #[] 0)).alloc (.map #[] 0)).ownsMap prog 9 R (w.heap.size+1) 0 (.map []):=fun R=>by have:=World.ownsMap_made (w.alloc (.map #[] 0)) prog 9 R;simpa using this
 have n:∀R:Value->Option (DataW Unit×List MemPlace),(((w.alloc (.map #[] 0)).alloc (.map #[] 0)).alloc (.map #[] 0)).ownsMap prog 9 R (w.heap.size+1+1) 0 (.map []):=fun R=>by have:=World.ownsMap_made ((w.alloc (.map #[] 0)).alloc (.map #[] 0)) prog 9 R;simpa using this
 exact {
  blk:=by have:=eA.new (((w.alloc (.map #[] 0)).alloc (.map #[] 0)).alloc (.map #[] 0)) #[.int .i64 a,.map (some w.heap.size),.map (some (w.heap.size+1)),.map (some (w.heap.size+1+1)),.slice none 0 0] 242;simpa using this
  lims:=(((k _).alloc _).alloc _).alloc _
  s9:=((l _).alloc _).alloc _
  cnts:=(n _).alloc _
  cnt:=fun m=>rfl
  q1:=rfl
  cells:=fun q b=>by cases b
  row:=World.ownsRow_nil _ _ _ _
  heap:=fun i _ h=>by simp at h
  perm:=Xg _
  early:=fun h f=>by cases f
  rm:=Xd
  rs:=Xd
  sx:=by show w.heap.size<=_;omega
  sl:=Ka _
  ss:=by show w.heap.size<=_;omega
  sc:=by show w.heap.size<=_;omega
  sq:=fun q b=>by cases b
  si:=fun g c=>by cases c
  d1:=by omega
  d2:=by omega
  d3:=by omega
  nd:=List.nodup_nil
  dx:=fun q b=>by cases b
  di:=fun g c=>by cases c}
theorem um (x:Nat) (t:dA) (S:Nat->Prop) (M:Nat) (w:World) (h:gD w S x t M):
 Calls prog 156 #[.pointer (some ⟨x,0,none⟩)] w fun e k=>e=.returned (.bool (iE t))/\k=w:=by
 obtain⟨g,j,o,q,Q,p,D,h⟩:=h;have l:w.cell? ⟨x,0,none⟩=some (.int .i64 t.l9):=h.blk.cell 0;have m:w.cell? ⟨x,1,none⟩=some (.map (some g)):=h.blk.cell 1;have n:w.cell? ⟨x,2,none⟩=some (.map (some j)):=h.blk.cell 2;have f:=h.lims.len underlying236 3;have d:=h.s9.len underlying237 3;rw[VE]at f d;have c:Q.length=t.s9.length:=by rw[<-h.q1,Rb]
 rw[c]at d;clear h c;have E:Hid (iE t=(t.l9==-1&&t.m9.length==0&&t.s9.length==0)):=rfl;generalize t.m9.length=i at *;generalize t.s9.length=r at *;generalize t.l9=L at *;by_cases a:L = -1
 ·by_cases b:i=0
  ·go_enter func156,ntmps156;go_wp2;go_ret;exact⟨jA (by rw[E.out,a,b];rw[Sb];simp),rfl⟩
  ·go_enter func156,ntmps156;go_wp2;go_ret;exact⟨jA (by rw[E.out,a];rw[Sb];simp[b]),rfl⟩
 ·go_enter func156,ntmps156;go_wp2;go_ret;exact⟨jA (by rw[E.out];rw[Sb];simp[a]),rfl⟩
end
section
open Go.Maps
theorem aCn (w:World):(zeroValue 3).run prog w=.ok (.int .i64 0) w:=by kernel_rfl
theorem fE {H:Type} {P:Program} {w:World} {k:TypeId} {R:Value->Option (DataW H×List MemPlace)} {b n g:Nat} {D:DataW H} {c:Array Value} {t:TypeId} (h:w.ownsMap P k R b n D) (d:eA w g c t):b≠g:=by
 intro e;subst e;obtain⟨i,a,f,_⟩:=h;rw[eA,f]at d;simp at d
theorem tM {H:Type} {P:Program} {w:World} {k:TypeId} {R:Value->Option (DataW H×List MemPlace)} {b n:Nat} {D:DataW H} {B:Nat} {e:TypeId} {size:Nat} {v:Value} {m:Nat} {i:List Value} (h:w.ownsMap P k R b n D) (g:w.ownsRow B e size v m i):v.ownBlock≠some b:=by
 intro a;rcases g.2 with⟨rfl,_⟩|⟨j,c,d,rfl,_,f,_⟩
 ·cases a
 ·simp only[Value.ownBlock,Pa]at a;subst a;exact fE h f rfl
theorem df.newLims {w f:World} {S:Nat->Prop} {x:Nat} {t:dA} {M c m i n:Nat} {l:Value} {Q:List (lA×Nat)} {k:List tQ} {D E:DataW Unit} {d:List lA} (h:df w S x t M c m i l Q k D) (b:gA (·=c) w f)
 (a:f.ownsMap prog 9 (plainElem prog 3) c n E) (o:E=rH (d.map fun p=>(p.s,TN p.n))) (u:jC (·.s) d):gD f S x { t with m9:=d} M:=by
 subst o;refine⟨c,m,i,l,Q,k,D,?_⟩;exact { h with
  blk:=b.blk h.blk (fE h.lims h.blk).symm
  lims:=by have:=aDc a;rw[VE]at this;exact this
  s9:=b.map h.s9 h.d1.symm
  cnts:=b.map h.cnts h.d2.symm
  cells:=fun q j=>b.blk (h.cells q j) (fE h.lims (h.cells q j)).symm
  row:=b.row h.row (fun g r e=>by subst e;exact tM h.lims h.row r)
  rm:=u}
theorem zg {w w2 H O:World} {S:Nat->Prop} {x:Nat} {t:dA} {M X N G:Nat} {P:Value} {Q:List (lA×Nat)} {A:List tQ} {D:DataW Unit} {j:ByteArray} {l c:Int} {g B:Nat} (h:df w S x t M X N G P Q A D) (z:xC (·.s) j t.s9=none)
 (d:gA (fun k=>k=N\/k=G) w H) (K:w2.ownsMap prog 9 zO N (Q.length+1) (DataW.put (rH (Q.map fun q=>(q.1.s,zP q.2))) (kL j) (zP w.heap.size))) (i:gA (·=G) w2 H)
 (L:H.ownsMap prog 9 (plainElem prog 3) G (M+1) (D.put (kL (vD j)) (.lit (.int .i64 (c+1))))) (b3:eA H w.heap.size #[.string j,.int .i64 l] 109) (hc:c=(wN vD t.s9 (vD j):Nat))
 (R:eA O x (#[.int .i64 t.l9,.map (some X),.map (some N),.map (some G),P].setIfInBounds 4 (.slice (some ⟨g,0,none⟩) (A.length+1) B)) 242)
 (V:O.ownsRow 0 248 2 (.slice (some ⟨g,0,none⟩) (A.length+1) B) (A.length+1) (qJ (gW A ⟨w.heap.size,l⟩))) (y:P.ownBlock=some g\/H.heap.size<=g) (f:gA (fun k=>k=x\/P.ownBlock=some k) H O):
 gD O (fun g=>S g\/w.heap.size<=g) x { t with s9:=bB (·.s) ⟨j,l⟩ t.s9} (M+1)/\gA S w O:=by
 have hxl:=aA h.blk;have hbl:=aA b3;have c0:=fE h.s9 h.blk;have d0:=fE h.cnts h.blk;have b0:=fE h.lims h.blk;have Y:=tM h.lims h.row;have Z:=tM h.s9 h.row;have a0:=tM h.cnts h.row;have v:=fun q n=>aA (h.cells q n);have E:xC (fun q:lA×Nat=>q.1.s) j Q=none:=by
  have:=PK (key:=fun q:lA×Nat=>q.1.s) (key':=fun p:lA=>p.s) (fun q=>q.1) (fun _=>rfl) j Q;rw[h.q1,z]at this;cases hg:xC (fun q:lA×Nat=>q.1.s) j Q with
  |none=>rfl
  |some q=>rw[hg]at this;cases this
 have F:=DM (key:=fun q:lA×Nat=>q.1.s) (a:=((⟨j,l⟩:lA),w.heap.size)) E;have T:=DM (key:=fun p:lA=>p.s) (a:=(⟨j,l⟩:lA)) z;have I:(bB (fun q:lA×Nat=>q.1.s) ((⟨j,l⟩:lA),w.heap.size) Q).length=Q.length+1:=by rw[F.length_eq];rfl
 have W:jC (fun q:lA×Nat=>q.1.s) Q:=by
  rw[<-LW (key':=fun p:lA=>p.s) (fun q:lA×Nat=>q.1) (fun _=>rfl),h.q1];exact h.rs
 obtain⟨ph,pp,pl⟩:=gb h.heap ⟨w.heap.size,l⟩;have J:DataW.put (rH (Q.map fun q=>(q.1.s,zP q.2))) (kL j) (zP w.heap.size)=rH ((bB (fun q:lA×Nat=>q.1.s) ((⟨j,l⟩:lA),w.heap.size) Q).map fun q=>(q.1.s,zP q.2)):=
  gc (key:=fun q:lA×Nat=>q.1.s) (fun q=>zP q.2) ((⟨j,l⟩:lA),w.heap.size) W
 have o:∀q,q∈bB (fun q:lA×Nat=>q.1.s) ((⟨j,l⟩:lA),w.heap.size) Q->q=((⟨j,l⟩:lA),w.heap.size)\/q∈Q:=fun q n=>xH n;have C:∀s∈A,∃q∈Q,q.2=s.b:=fun s r=>by
  have:=(h.perm.mem_iff (a:=s.b)).1 (Ie.2 ⟨s,r,rfl⟩);obtain⟨q,n,e⟩:=Ie.1 this;exact⟨q,n,e⟩
 refine⟨⟨X,N,G,.slice (some ⟨g,0,none⟩) (A.length+1) B,bB (fun q:lA×Nat=>q.1.s) ((⟨j,l⟩:lA),w.heap.size) Q,gW A ⟨w.heap.size,l⟩,D.put (kL (vD j)) (.lit (.int .i64 (c+1))),?_⟩,?_⟩
 ·exact {
   blk:=R
   lims:=f.map (d.map h.lims (fun e=>by rcases e with e|e;exact h.d1 e;exact h.d2 e)) (fun e=>by rcases e with e|e;exact b0 e;exact Y e)
   s9:=by
    rw[<-J,I];exact f.map (i.map K h.d3) (fun e=>by rcases e with e|e;exact c0 e;exact Z e)
   cnts:=f.map L (fun e=>by rcases e with e|e;exact d0 e;exact a0 e)
   cnt:=fun m=>by
    rw[lw T m,lv];by_cases e:vD j=m
    ·rw[Qa e,<-e,atKey_put_same (k:=kL (vD j)) h.cnts.isMap trivial,hc];rfl
    ·rw[Oa e,atKey_put_other (fun e'=>e (aEj e').symm),h.cnt m];rfl
   q1:=by
    rw[DL (key':=fun p:lA=>p.s) (fun q:lA×Nat=>q.1) (fun _=>rfl),h.q1]
   cells:=fun q n=>by
    rcases o q n with rfl|n
    ·exact f.blk b3 (fun e=>by rcases e with e|e;simp only at e;omega;have:=gi h.row _ e;simp only at this;omega)
    ·exact f.blk (d.blk (h.cells q n) (fun e=>by rcases e with e|e;exact fE h.s9 (h.cells q n) e.symm;exact fE h.cnts (h.cells q n) e.symm)) (fun e=>by rcases e with e|e;exact h.dx q n e;exact(h.di _ e).2 q n rfl)
   row:=by rw[pl];exact V
   heap:=ph
   perm:=by
    refine(pp.map _).trans ?_;refine List.Perm.trans ?_ (F.map _).symm;exact List.Perm.cons _ h.perm
   early:=fun s r q n e=>by
    rcases Ab.1 ((pp.mem_iff).1 r) with rfl|r
    ·rcases o q n with rfl|n
     ·exact Af _
     ·have:=v q n;simp only at e;omega
    ·rcases o q n with rfl|n
     ·obtain⟨q',U,e'⟩:=C s r;have:=v q' U;simp only at e;omega
     ·exact h.early s r q n e
   rm:=h.rm
   rs:=wP h.rs
   sx:=Ca h.sx
   sl:=Ca h.sl
   ss:=Ca h.ss
   sc:=Ca h.sc
   sq:=fun q n=>by
    rcases o q n with rfl|n
    ·exact Ja (Ka _)
    ·exact Ca (h.sq q n)
   si:=fun g' u=>by
    simp only[Value.ownBlock,Pa]at u;subst u;rcases y with e|e
    ·exact Ca (h.si g e)
    ·exact Ja (by have:=d.size;omega)
   d1:=h.d1
   d2:=h.d2
   d3:=h.d3
   nd:=by
    rw[(F.map _).nodup_iff,Lb,List.nodup_cons];refine⟨fun hm=>?_,h.nd⟩;obtain⟨q,n,e⟩:=Ie.1 hm;have:=v q n;simp only at e;omega
   dx:=fun q n=>by
    rcases o q n with rfl|n
    ·simp only;omega
    ·exact h.dx q n
   di:=fun g' u=>by
    simp only[Value.ownBlock,Pa]at u;subst u;rcases y with e|e
    ·refine⟨(h.di g e).1,fun q n=>?_⟩;rcases o q n with rfl|n
     ·have:=gi h.row g e;simp only;omega
     ·exact(h.di g e).2 q n
    ·refine⟨by omega,fun q n=>?_⟩;rcases o q n with rfl|n
     ·simp only;omega
     ·have:=v q n;omega}
 ·refine(d.mono fun k _ e=>by rcases e with rfl|rfl;exact h.ss;exact h.sc).trans (f.mono fun k _ e=>?_);rcases e with rfl|e
  ·exact Ca h.sx
  ·exact Ca (h.si _ e)
theorem ze (x:Nat) (t:dA) (l:ByteArray) (m:Int) (S:Nat->Prop) (M:Nat) (w:World) (h:gD w S x t M) (P:xC (·.s) l t.s9=none) (hk:l.size<=maxLen) (hm:(vD l).size<=maxLen) (hM:M<=1000000000) (hl:t.s9.length<=1000000000):
 Calls prog 165 #[.pointer (some ⟨x,0,none⟩),.string l,.string (vD l),.int .i64 m] w fun e H=>e=.returned (.tuple #[])/\gD H (fun g=>S g\/w.heap.size<=g) x { t with s9:=bB (·.s) ⟨l,m⟩ t.s9} (M+1)/\gA S w H:=by
 obtain⟨lm,X,J,iv,Q,G,D,h⟩:=h;have HK:Hid _:=UE hk;have HM:Hid _:=UE hm;have hQ:Q.length=t.s9.length:=by rw[<-h.q1,Rb]
 have hH:G.length=Q.length:=by have:=h.perm.length_eq;simpa using this
 have HI:Hid _:=h;obtain⟨Y,o⟩:∃W,W=w.alloc (.cells #[.string l,.int .i64 m] 109):=⟨_,rfl⟩
 have d:gA (fun _=>False) w Y:=by rw[o];exact gA.of (cA _ _)
 have b1:eA Y w.heap.size #[.string l,.int .i64 m] 109:=by rw[o];exact eA.new _ _ _
 obtain⟨Z,V,A,K⟩:=(d.map h.s9 (fun e=>e)).update YY underlying237 (by unfold maxLen;omega) HK.out (LP w.heap.size);have j:gA (·=X) Y Z:=(gA.grown K).mono fun i _ e=>by simp only[Pa]at e;exact e.symm
 have a:=(d.mono fun _ _ e=>e.elim).trans' j;have n:=a.map h.cnts (Ne.symm h.d3);obtain⟨c,runL,N,hwc⟩:=n.lookup_int YY underlying236 underlying3 (aCn _) HM.out;have hc:c=(wN vD t.s9 (vD l):Nat):=by
  have:=h.cnt (vD l);unfold TN at this;rw[N]at this;simpa using this
 have hc0:=je vD t.s9 (vD l);have hcl:0<=c:=by omega
 have hcu:c<=1000000000:=by omega
 obtain⟨E,run3,B,L⟩:=n.update YY underlying236 (by unfold maxLen;omega) (val:=.int .i64 (c+1)) HM.out (plainElem_int underlying3 (WalkArith.wf_i64 (by omega)));have f:gA (·=J) Z E:=(gA.grown L).mono fun i _ e=>by simp only[Pa]at e;exact e.symm
 have b:=(a.mono fun _ _ e=>Ca e).trans' (f.mono fun _ _ e=>Ja e);have U:=fE h.s9 h.blk;have nx2:=fE h.cnts h.blk;have u:eA Y x _ _:=d.blk h.blk (fun e=>e);have v:eA Z x _ _:=a.blk h.blk U.symm;have y:eA E x _ _:=b.blk h.blk (fun e=>by rcases e with e|e;exact U e.symm;exact nx2 e.symm);have C:=b.row h.row (fun g hg e=>by rcases e with rfl|rfl;exact tM h.s9 h.row hg;exact tM h.cnts h.row hg);have c1:Y.cell? ⟨x,2,none⟩=some (.map (some X)):=u.cell 2;have c2:Z.cell? ⟨x,3,none⟩=some (.map (some J)):=v.cell 3;have HP:Hid (Calls prog 170 #[.pointer (some ⟨x,4,none⟩),.agg #[.pointer (some ⟨w.heap.size,0,none⟩),.int .i64 m]] E fun e H=>e=.returned (.tuple #[])/\∃g F,eA H x (#[.int .i64 t.l9,.map (some lm),.map (some X),.map (some J),iv].setIfInBounds 4 (.slice (some ⟨g,0,none⟩) (G.length+1) F)) 242/\
  H.ownsRow 0 248 2 (.slice (some ⟨g,0,none⟩) (G.length+1) F) (G.length+1) (qJ (gW G ⟨w.heap.size,m⟩))/\(iv.ownBlock=some g\/E.heap.size<=g)/\gA (fun k=>k=x\/iv.ownBlock=some k) E H):=
  wj x 4 0 iv G ⟨w.heap.size,m⟩ E _ _ y rfl C (fun e=>(h.di x e).1 rfl) (La _) (by omega)
 have I:Hid _:=b;have p:Hid (Z.ownsMap prog 9 zO X (Q.length+1) (DataW.put (rH (Q.map fun q=>(q.1.s,zP q.2))) (kL l) (zP w.heap.size))):=A;have r:Hid (E.ownsMap prog 9 (plainElem prog 3) J (M+1) (D.put (kL (vD l)) (.lit (.int .i64 (c+1))))):=B;have T3:Hid _:=f;have B3:Hid (eA E w.heap.size #[.string l,.int .i64 m] 109):=((j.mono (S':=fun k=>k=X\/k=J) fun _ _ e=>Ca e).trans' (f.mono fun _ _ e=>Ja e)).blk b1 (fun e=>by have:=h.s9.lt;have:=h.cnts.lt;rcases e with e|e<;>omega);have HCD:Hid _:=hc;rw[o]at V c1;clear h hk hm o d b1 A K j a n N hwc hc hc0 B L f b u v y C;go_enter func165,ntmps165;go_wp2_with fail;refine HP.out.mono ?_;rintro e w4 ⟨rfl,g,F,O,R,z,T⟩;have HF:=zg HI.out P I.out p.out T3.out r.out B3.out HCD.out O R z T;clear HP HI I p T3 r B3 O R z T;have HFF:Hid _:=bA HF;clear HF;go_wp2;go_end0;exact⟨rfl,HFF.out⟩
end
theorem JH {f:Nat->Bool} {n:Nat} (h:∀k,k<n->f k=true):iH f n=true:=by
 induction n with
 |zero=>rfl
 |succ n a=>rw[lI,a fun k b=>h k (by omega),h n (by omega)];rfl
theorem LY {l:List lA} (b:jC (·.s) l) {k:Nat} (a:k<l.length):sI l k=true:=by
 cases k with
 |zero=>rfl
 |succ k=>
  rw[eQ (by omega) a];have:=Oe.1 b k (k+1) (by omega) a (by omega);simpa using this
theorem gh {l:List dA} (b:jC (·.name) l) {k:Nat} (a:k<l.length):lK l k=true:=by
 cases k with
 |zero=>rfl
 |succ k=>
  rw[qS (by omega) a];have:=Oe.1 b k (k+1) (by omega) a (by omega);simpa using this
theorem ZN {b:List lA} (c:jC (·.s) b) (h:∀m∈b,cE m.s=true/\xA m.n 0 1000000=true):kK b=true:=JH fun k a=>by
 rw[bW a,LY c a,(h _ (Xa a)).1,(h _ (Xa a)).2];rfl
theorem bl {b a:Int} {d:List lA} (i:jC (·.s) d) (h:∀x∈d,eI x.s=true/\xA x.n 0 a=true/\a-x.n<b):uJ b a d=true:=JH fun k c=>by
 obtain⟨e,f,g⟩:=h _ (Xa c);rw[vS c,LY i c,e,f,Zb g];rfl
theorem MP {b a:Int} {d:List dA} (e:jC (·.name) d) (h:∀t∈d,eO b a t=true):yL b a d=true:=JH fun k c=>by
 rw[eT c,gh e c,h _ (Xa c)];rfl
theorem jP {c:vB} {a:Int} {b:List dA} (d:jE c=true) (e:xA a 0 1000000000000=true) (f:b.length<=10000) (g:yL c.w a b=true):gB c a b=true:=by
 unfold gB;rw[d,e,g,Zb f];rfl
theorem IU {a:List lA} (h:kK a=true):(∀m∈a,cE m.s=true/\xA m.n 0 1000000=true)/\jC (·.s) a:=by
 refine⟨fun m c=>?_,?_⟩
 ·obtain⟨i,b,rfl⟩:=Ob c;have:=uN h b;rw[bW b]at this;simp only[Sa]at this;exact⟨this.1.2,this.2⟩
 ·have:=DV (n:=a.length) h (Ka _);rwa [Wb]at this
theorem BV {b a:Int} {c:List lA} (h:uJ b a c=true):(∀x∈c,eI x.s=true/\xA x.n 0 a=true/\a-x.n<b)/\jC (·.s) c:=by
 refine⟨fun x e=>?_,?_⟩
 ·obtain⟨i,d,rfl⟩:=Ob e;have:=uN h d;rw[vS d]at this;simp only[Sa,Eb]at this;exact⟨this.1.1.2,this.1.2,this.2⟩
 ·have:=EE (n:=c.length) h (Ka _);rwa [Wb]at this
theorem CI {b a:Int} {t:dA} (h:eO b a t=true):yB t.name=true/\xA t.l9 (-1) 1000000=true/\kK t.m9=true/\uJ b a t.s9=true/\iE t=false:=by
 simp only[eO,Sa]at h;obtain⟨⟨⟨⟨c,g⟩,d⟩,e⟩,f⟩:=h;exact⟨c,g,d,e,by simpa using f⟩
theorem VS {b a:Int} {t:dA} (c:yB t.name=true) (d:xA t.l9 (-1) 1000000=true) (e:kK t.m9=true) (f:uJ b a t.s9=true) (g:iE t=false):eO b a t=true:=by
 unfold eO;rw[c,d,e,f,g];rfl
theorem DD {n a b:Int} (c:a<=n) (d:n<=b):xA n a b=true:=by
 unfold xA;rw[Zb c,Zb d];rfl
theorem aCk {c:vB} (h:jE c=true):1<=c.w/\c.w<=1000000000:=by
 simp only[jE,Sa]at h;exact dK h.1.1.1.1.1
theorem pR {c b:Int} {a:List dA} (h:yL c b a=true) {name:ByteArray}:xA (tA a name).l9 (-1) 1000000=true/\kK (tA a name).m9=true/\uJ c b (tA a name).s9=true:=by
 rcases uI (ts:=a) (name:=name) with⟨d,_⟩|⟨d,_⟩
 ·obtain⟨_,e,f,g,_⟩:=CI (nH h _ d);exact⟨e,f,g⟩
 ·rw[d];exact⟨rfl,rfl,rfl⟩
theorem UA {b:List dA} {t:dA} (d:jC (·.name) b) (e:b.length<=10000) (h:((xC (·.name) t.name b).isNone&&decide (10000<=b.length))=false):(bB (·.name) t b).length<=10000:=by
 have c:=BF (a:=t) d;cases hg:xC (·.name) t.name b with
 |some q=>simp only[hg,Option.isSome_some,Ee]at c;omega
 |none=>
  rw[hg]at h;simp only[hg,Option.isSome_none,Pc,Se]at c;simp only[Option.isNone_none,Ce,Ze]at h;omega
theorem KN {b a:Int} {d:List dA} {t:dA} (h:yL b a d=true) (e:eO b a t=true):yL b a (bB (·.name) t d)=true:=
 MP (wP (eP h)) fun q c=>by
  rcases xH c with rfl|c
  ·exact e
  ·exact nH h q c
theorem io {c:vB} {b:Int} {e:List dA} (g:gB c b e=true) {a d:ByteArray} (f:(yB a&&eI d)=true):eO c.w b (kI (tA e a) d b)=true:=by
 obtain⟨j,i,q,r,k⟩:=oF g;obtain⟨l,m,n⟩:=pR k (name:=a);obtain⟨o,p⟩:=BV n;rw[Sa]at f;refine VS (by show yB (tA e a).name=true;rw[zD];exact f.1) l m ?_ OJ;refine bl (wP p) fun x h=>?_;rcases xH (show x∈bB (·.s) ⟨d,b⟩ (tA e a).s9 from h) with rfl|h
 ·exact⟨f.2,DD i (Af _),by have:=(aCk j).1;show b-b<_;omega⟩
 ·exact o x h
theorem iq {c:vB} {f:Int} {d:List dA} (g:gB c f d=true) {a b:ByteArray} (h:(jT c f d a b).2=1\/(jT c f d a b).2=2):gB c f (jT c f d a b).1=true:=by
 obtain⟨r,w,x,t,n⟩:=oF g;have p:=DD w x;have u:=eP n;have j:(kI (tA d a) b f).name=a:=zD;unfold jT at h |-
 by_cases l:(yB a&&eI b)=false
 ·rw[Qa l]at h;omega
 rw[Oa l]at h |-
 have i:(yB a&&eI b)=true:=by simpa using l
 by_cases k:(xC (·.s) b (tA d a).s9).isSome=true
 ·rw[Qa k];refine jP r p (UA u t ?_) (KN n (io g i));rw[j];rcases uI (ts:=d) (name:=a) with⟨_,v⟩|⟨e,_⟩
  ·cases hg:xC (·.name) a d with
   |none=>rw[hg]at v;cases v
   |some q=>rfl
  ·rw[e]at k;cases k
 rw[Oa k]at h |-
 by_cases m:(if (tA d a).l9 = -1 then c.tl else(tA d a).l9)<=((tA d a).s9.length:Nat)\/((xC (·.name) a d).isNone&&decide (10000<=d.length))=true
 ·rw[Qa m]at h;omega
 rw[Oa m]at h |-
 by_cases o:qG (tA d a).m9 (vD b) c.ml<=(wN vD (tA d a).s9 (vD b):Nat)
 ·rw[Qa o]at h;omega
 rw[Oa o];refine jP r p (UA u t ?_) (KN n (io g i));rw[j];cases hd:((xC (·.name) a d).isNone&&decide (10000<=d.length)) with
 |false=>rfl
 |true=>exact absurd (Ja hd) m
theorem aBx {c:vB} {k:Int} {g:List dA} (f:gB c k g=true) {a b:ByteArray} {d:Int}:gB c k (uZ g a b d).1=true:=by
 obtain⟨v,C,D,w,l⟩:=oF f;have u:=DD C D;have y:=eP l;obtain⟨E,z,F⟩:=pR l (name:=a);obtain⟨A,B⟩:=IU z;unfold uZ;by_cases n:(yB a&&(b.toList.isEmpty||cE b) &&xA d (-1) 1000000)=false
 ·rw[Qa n];exact f
 rw[Oa n];have e:=(Bool.not_eq_false _).mp n;simp only[Sa]at e;by_cases o:iE (qH (tA g a) b d)=true
 ·rw[Qa o];refine jP v u (Ra (Gc _ _) w) (MP (JY y) fun t s=>nH l t (QA.1 s).1)
 rw[Oa o];by_cases p:((xC (·.name) a g).isNone&&decide (10000<=g.length))=true
 ·rw[Qa p];exact f
 rw[Oa p];have j:(qH (tA g a) b d).name=a:=by rw[gP,zD]
 refine jP v u (UA y w (by rw[j];simpa using p)) (KN l ?_);refine VS (by rw[j];exact e.1.1) ?_ ?_ (by rw[PY];exact F) (by simpa using o)
 ·unfold qH;split
  ·exact e.2
  ·exact E
 ·unfold qH;split
  ·exact z
  ·rename_i q;have r:cE b=true:=by
    have:=e.1.2;rw[He]at this;rcases this with h|h
    ·exact absurd h q
    ·exact h
   simp only;split
   ·exact ZN (JY B) fun m i=>A m (QA.1 i).1
   ·rename_i x;refine ZN (wP B) fun m i=>?_;rcases xH i with rfl|i
    ·have:=dK e.2;exact⟨r,DD (by show 0<=d;omega) this.2⟩
    ·exact A m i
theorem yg {c:vB} {a:Int} {d:List dA} (e:gB c a d=true) {b:Int}:gB c (rR c.w a d b).1 (rR c.w a d b).2.1=true:=by
 obtain⟨k,D,E,l,h⟩:=oF e;have n:=eP h;unfold rR;split
 ·exact e
 ·rename_i F;have f:(uC c.w (a+b) d).length<=d.length:=by
   unfold uC;have:=Gc (fun t=>!iE t) (d.map (fG c.w (a+b)));rw[Rb]at this;exact this
  refine jP k (DD (by omega) (by omega)) (Ra f l) (MP ?_ fun t g=>?_)
  ·exact Qf _ (Lg.2 n)
  ·obtain⟨i,j⟩:=Ge.1 g;obtain⟨q,m,rfl⟩:=Ie.1 i;obtain⟨p,r,s,u,_⟩:=CI (nH h q m);obtain⟨v,y⟩:=BV u;refine VS p r s (bl (Qf _ y) fun x o=>?_) (by simpa using j);obtain⟨z,A⟩:=Ge.1 o;obtain⟨B,C,_⟩:=v x z;have:=dK C;exact⟨B,DD this.1 (by omega),by simpa using A⟩
def vF (c:vB) (a:Int) (b:List dA) (r:lC):Int×List dA×Bool:=
 if r.kind=1 then(a,(jT c a b r.n9 r.text).1,decide ((jT c a b r.n9 r.text).2=1) ||decide ((jT c a b r.n9 r.text).2=2))
 else if r.kind=2 then rR c.w a b r.num
 else if r.kind=3 then(a,(uZ b r.n9 r.text r.num).1,(uZ b r.n9 r.text r.num).2)
 else(a,b,false)
def qL (c:vB):Int->List dA->List lC->Int×List dA×Bool
 |a,b,[]=>(a,b,true)
 |a,b,r::d=>if (vF c a b r).2.2=true then qL c (vF c a b r).1 (vF c a b r).2.1 d else((vF c a b r).1,(vF c a b r).2.1,false)
def lM (c:vB) (a:Int) (b:List dA) (d:List lC):Int×List dA×Bool:=
 if gB c a b=false then(0,[],false) else if 500<d.length then(a,b,false) else if (qL c a b d).2.2=true then qL c a b d else(a,b,false)
theorem cf {c:vB} {a:Int} {d:List dA} (h:gB c a d=true) {r:lC} (b:(vF c a d r).2.2=true):gB c (vF c a d r).1 (vF c a d r).2.1=true:=by
 unfold vF at b |-
 split
 ·rename_i e;rw[Qa e]at b;simp only[He,Eb]at b;exact iq h b
 ·rename_i e;rw[Oa e]at b;split
  ·exact yg h
  ·rename_i f;rw[Oa f]at b;split
   ·exact aBx h
   ·exact h
