import Derived.Test.YtjpeimianeiegaaGreatDoorJ02
import Derived.Deep.RegionHeld3
set_option maxRecDepth 100000
set_option maxHeartbeats 2000000
namespace Go.Proofs.YtjpeimianeiegaaGreatDoor
open Go.RowKit Tryz
theorem uM {w:World} {B:Nat} {e:TypeId} {a:Nat} {v:Value} {n:Nat} {i:List Value} (h:w.ownsRow B e a v n i):∀g,v.ownBlock=some g->g<w.heap.size:=by
 intro g b;rcases h.2 with⟨rfl,_⟩|⟨j,c,d,rfl,_,f,_⟩
 ·simp[Value.ownBlock]at b
 ·simp[Value.ownBlock]at b;subst b;exact aA f
theorem RE {w:World} {B:Nat} {e:TypeId} {c:Nat} {v:Value} {n:Nat} {f:List Value} (h:w.ownsRow B e c v n f):∃a b,v=.slice a n b:=by
 rcases h.2 with⟨rfl,rfl⟩|⟨g,b,d,rfl,_⟩
 ·exact⟨none,0,rfl⟩
 ·exact⟨_,b,rfl⟩
theorem ES {w:World} {B B':Nat} {e:TypeId} {a:Nat} {v:Value} {n:Nat} {d:List Value} (h:w.ownsRow B e a v n d) (i:B'<=B):w.ownsRow B' e a v n d:=by
 refine⟨h.1,?_⟩;rcases h.2 with f|⟨g,b,c,k,j,r⟩
 ·exact Ba f
 ·exact Ea ⟨g,b,c,k,Ma i j,r⟩
structure oB (w:World) (B D:Nat) (fs:List dA) (c k cr fl:Int) (dn:Bool) (v:Value):Prop where
 from':B≤D
 blk:lA w D #[.int .i64 k,.int .i64 cr,.int .i64 fl,.bool dn,v,.int .i64 c] 138
 row:w.ownsRow B 98 3 v fs.length (flat fs)
 apart:∀g,v.ownBlock=some g→g≠D
theorem oB.later {w g:World} {B D:Nat} {e:List dA} {c k a d:Int} {b:Bool} {v:Value} (h:oB w B D e c k a d b v) (f:Below w.heap.size w g):oB g B D e c k a d b v:=
 ⟨h.from',h.blk.later f,cB h.row f,h.apart⟩
theorem aCd (a:Option Addr) (d:Nat) (f:List dA) (c k l n:Int) (m:Bool) (w:World) (t:iA w a f) (o:f.length<=1048576):
 Calls prog 28 #[.agg #[.slice a f.length d,.int .i64 c,.int .i64 k,.int .i64 l,.int .i64 n,.bool m]] w fun e b=>
  ∃D v,e=.returned (.pointer (some ⟨D,0,none⟩))/\oB b w.heap.size D f c k l n m v/\Below w.heap.size w b:=by
 have u:Hid (iA w a f):=t;clear t;obtain⟨A,B,C,E,F,G⟩:=bN.new w (.slice a f.length d) (.int .i64 c) (.int .i64 k) (.int .i64 l) (.int .i64 n) (.bool m) 30;have p:Hid (∀b,Below (w.alloc (.cells #[.slice a f.length d,.int .i64 c,.int .i64 k,.int .i64 l,.int .i64 n,.bool m] 30)).heap.size (w.alloc (.cells #[.slice a f.length d,.int .i64 c,.int .i64 k,.int .i64 l,.int .i64 n,.bool m] 30)) b->b.cell? ⟨w.heap.size,0,none⟩=some (.slice a f.length d)/\b.cell? ⟨w.heap.size,1,none⟩=some (.int .i64 c)/\b.cell? ⟨w.heap.size,2,none⟩=some (.int .i64 k)/\b.cell? ⟨w.heap.size,3,none⟩=some (.int .i64 l)/\b.cell? ⟨w.heap.size,4,none⟩=some (.int .i64 n)/\b.cell? ⟨w.heap.size,5,none⟩=some (.bool m)):=fun b h=>
  (bN.new w (.slice a f.length d) (.int .i64 c) (.int .i64 k) (.int .i64 l) (.int .i64 n) (.bool m) 30).later h
 go_enter func28,ntmps28;go_wp2_with fail;go_region_held3 (fun b=>b.cell? ⟨w.heap.size,0,none⟩=some (.slice a f.length d)/\b.cell? ⟨w.heap.size,1,none⟩=some (.int .i64 c)/\b.cell? ⟨w.heap.size,2,none⟩=some (.int .i64 k)/\b.cell? ⟨w.heap.size,3,none⟩=some (.int .i64 l)/\b.cell? ⟨w.heap.size,4,none⟩=some (.int .i64 n)/\b.cell? ⟨w.heap.size,5,none⟩=some (.bool m))
  (first|(exact p.out _ (pA (pA (Below.refl _ _).drew j) (cA _ _)))|(exact p.out _ (pA (Below.refl _ _).drew j))|(exact p.out _ (Below.refl _ _).drew))
  (first
  |(go_at_call 62;refine(zk a d f _ ((u.out.later (cA _ _)).later (Below.refl _ _).drew) o).mono ?_;rintro e y ⟨v,rfl,i,j⟩;obtain⟨z,s,rfl⟩:=RE i))
 go_wp2;go_ret;have q:=j.size;have r:=uM i;refine⟨y.heap.size,_,rfl,⟨?_,heap_alloc_new _ _,ES (cB i (cA _ _)) (by simp),?_⟩,pA (pA (cA _ _) (pA (Below.refl _ _).drew j)) (cA _ _)⟩
 ·simp at q;omega
 ·intro g x;have:=r g x;omega
theorem ot (b o:Nat) (a:Array Value) (t:TypeId) (d:ByteArray) (w:World) (c:lA w b a t) (f:a[o+1]?=some (.string d)) (g:o+2<a.size):
 Calls prog 130 #[.pointer (some ⟨b,o,none⟩)] w fun e i=>e=.returned (.tuple #[])/\i=w.setCell ⟨b,o+2,none⟩ (.int .i64 d.size):=by
 have h:=c.cell (o+1);rw[f]at h;obtain⟨l,j⟩:=c.there g;have k:=c.free (o+2);clear c f g;go_enter func130,ntmps130;go_wp2;go_end0;exact⟨rfl,rfl⟩
theorem pn (D:Nat) (t:TypeId) (a:Option Addr) (n d:Nat) (c k f h:Int) (g:Bool) (w:World) (i:lA w D #[.int .i64 k,.int .i64 f,.int .i64 h,.bool g,.slice a n d,.int .i64 c] t):
 Calls prog 30 #[.pointer (some ⟨D,0,none⟩)] w fun e r=>e=.returned (.agg #[.slice a n d,.int .i64 c,.int .i64 k,.int .i64 f,.int .i64 h,.bool g])/\Below w.heap.size w r:=by
 have b:=i.later (cA w (.cells #[.slice none 0 0,.int .i64 0,.int .i64 0,.int .i64 0,.int .i64 0,.bool false] 30));have j:=b.cell 0;have l:=b.cell 1;have m:=b.cell 2;have o:=b.cell 3;have p:=b.cell 4;have q:=b.cell 5;simp only[Xb,Kb,Fa]at j l m o p q;clear i b;go_enter func30,ntmps30;go_wp2_with fail;go_region
 go_wp2;exact bodyPost_ret (v:=.agg #[.slice a n d,.int .i64 c,.int .i64 k,.int .i64 f,.int .i64 h,.bool g]) (by simp[results,results30,go_sem]) rfl ⟨rfl,(cA _ _).drew⟩
