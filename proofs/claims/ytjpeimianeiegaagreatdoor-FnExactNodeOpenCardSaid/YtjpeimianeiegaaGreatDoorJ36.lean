import Derived.Test.YtjpeimianeiegaaGreatDoorJ34
import Derived.Deep.RegionHeldLaw
set_option maxRecDepth 100000
set_option maxHeartbeats 16000000
namespace Go.Proofs.YtjpeimianeiegaaGreatDoor
open Go.RowKit Tryz
section
open Go.Maps Go.Sort
theorem nt (g:Nat) (a:List fA) (w:World) (h:w.ownsMap prog 9 (plainElem prog 3) g a.length (oC (a.map fun p=>(p.s,qG p.n)))) (l:vB (·.s) a) (m:a.length<=1000000000):
 Calls prog 69 #[.func (.func 152) #[] #[.pointer (some ⟨w.heap.size,0,none⟩)]] (w.alloc (.cells #[.map (some g)] 181)) fun e i=>∃v,e=.returned v/\i.ownsRow w.heap.size 9 1 v a.length (a.map fun p=>.string p.s)/\Below w.heap.size w i:=by
 have d:Maps.size (oC (a.map fun p=>(p.s,qG p.n)))=a.length:=by rw[fL]
 refine Calls.mono (callsIn_wide.1 (slices_Sorted_keys_69_113 g _ _ (plainElem prog 3) w h (by rw[d];unfold maxLen;omega) (by rw[d];omega))) ?_;rintro e o ⟨v,ss,rfl,f,b,_,j⟩;have k:(strKeys (oC (a.map fun p=>(p.s,qG p.n))))=a.map fun p=>p.s.data.toList:=by
  rw[jT,Wd];rfl
 rw[k]at f;have c:ss.length=a.length:=by rw[f.length_eq,Ua]
 rw[JA (key:=fun p:fA=>p.s) l f,OI (fun p:fA=>p.s),c]at b;exact⟨v,rfl,ER b (by simp),pA (cA _ _) j⟩
def gV (a:List fA):List Value:=a.flatMap fun x=>[.string x.s,.int .i64 x.n]
theorem JZ (a:List fA) (k:Nat) (h:k<a.length):gV (a.take (k+1))=gV (a.take k)++[.string a[k].s,.int .i64 a[k].n]:=by
 rw[La h,gV,Pg];rfl
theorem ng {W:World} {B:Nat} {e:TypeId} {v:Value} {a:List fA} (h:W.ownsRow B e 1 v a.length (a.map fun p=>.string p.s)):
 ∃k q,v=.slice k a.length q/\(a=[]\/∃g,k=some ⟨g,0,none⟩/\B<=g/\g<W.heap.size/\∀i (h:i<a.length),W.cell? ⟨g,i,none⟩=some (.string a[i].s)):=by
 rcases h.2 with⟨rfl,j⟩|⟨g,c,b,rfl,l,f,_,_,o,d⟩
 ·refine⟨none,0,by rw[j],Ba (Fb.1 j)⟩
 ·refine⟨_,c,rfl,Ea ⟨g,rfl,l,aA f,fun i n=>?_⟩⟩;have m:=lA.cell (show lA W g b e from f) i;rw[m,<-Sd];have:(b.toList.take (a.length*1))[i]?=(a.map fun p=>Value.string p.s)[i]?:=by rw[d]
  rw[List.getElem?_take,Ga (by omega)]at this;rw[this,Jd,Ka n];rfl
theorem aBq {w:World} {d:Nat} {c:List fA} (h:w.ownsMap prog 9 (plainElem prog 3) d c.length (oC (c.map fun p=>(p.s,qG p.n)))) (f:vB (·.s) c) {p:fA} (e:p∈c) (g:p.s.size<=maxLen):
 (Instr.lookup 181 (.map (some d)) (.string p.s) false).run prog w=.ok (.int .i64 p.n) w:=by
 obtain⟨v,b,a,_⟩:=h.lookup_int vJ underlying181 underlying3 (MZ _) (sK g);rw[b];rw[rQ (key:=fun p:fA=>p.s) (fun p=>qG p.n),cK (key:=fun p:fA=>p.s) f e]at a;simp[qG]at a;rw[a]
theorem aGq {w:World} {S:Nat->Prop} {x:Nat} {t:eA} {M y d j:Nat} {u:Value} {Q:List (fA×Nat)} {o:List gG} {D:DataW Unit} (h:qP w S x t M y d j u Q o D) (i:Nat) (k:i<t.s9.length) (r:t.s9[i].s.size<=maxLen):
 ∃q,∀W,Below w.heap.size w W->W.cell? ⟨x,2,none⟩=some (.map (some d))/\(Instr.lookup 182 (.map (some d)) (.string t.s9[i].s) false).run prog W=.ok (.pointer (some ⟨q,0,none⟩)) W/\W.cell? ⟨q,0,none⟩=some (.string t.s9[i].s)/\W.cell? ⟨q,1,none⟩=some (.int .i64 t.s9[i].n):=by
 have l:t.s9[i] ∈Q.map (·.1):=by rw[h.q1];exact Db k
 obtain⟨q,f,e⟩:=Uc.1 l;have m:vB (fun q:fA×Nat=>q.1.s) Q:=by
  have:=h.rs;rw[<-h.q1]at this;exact Zd.1 this
 refine⟨q.2,fun W c=>?_⟩;have a:=(h.cells q f).later c;have p:=h.blk.later c;refine⟨p.cell 2,?_,?_,?_⟩
 ·obtain⟨v,z,b,g⟩:=World.ownsMap.lookup ((gA.of c).map (S:=fun _=>False) h.s9 (fun e=>e)) vJ underlying182 (show(zeroValue 190).run prog W=.ok (.pointer none) W by kernel_rfl) (zd:=.nil) (zp:=[]) rfl (sK r);rw[b];rw[rQ (key:=fun q:fA×Nat=>q.1.s) (fun q=>eE q.2),<-e,cK (key:=fun q:fA×Nat=>q.1.s) m f]at g;rw[xO g]
 ·rw[a.cell 0,<-e];rfl
 ·rw[a.cell 1,<-e];rfl
theorem aIv (x:Nat) (o:ByteArray) (t:eA) (S:Nat->Prop) (M:Nat) (w:World) (h:lC w S x t M) (hs1:∀i (h:i<t.m9.length),t.m9[i].s.size<=maxLen) (hs2:∀i (h:i<t.s9.length),t.s9[i].s.size<=maxLen) (hl1:t.m9.length<=2000000) (hl2:t.s9.length<=2000000):
 Calls prog 71 #[.pointer (some ⟨x,0,none⟩),.string o] w fun e w'=>∃H K M,e=.returned (.agg #[.string o,.int .i64 t.l9,H,K])/\w'.ownsRow w.heap.size 111 2 H t.m9.length (gV t.m9)/\(∀g,H.ownBlock=some g->g<M)/\w.heap.size<=M/\M<=w'.heap.size/\w'.ownsRow M 113 2 K t.s9.length (gV t.s9)/\Below w.heap.size w w':=by
 have HKY:Hid _:=fun W F=>aFt x t S M W (h.later F) (by omega);obtain⟨lm,sm,cm,iv,Q,hs,D,h⟩:=h;have c0:w.cell? ⟨x,0,none⟩=some (.int .i64 t.l9):=h.blk.cell 0;have c1:w.cell? ⟨x,1,none⟩=some (.map (some lm)):=h.blk.cell 1;have hxl:=aA h.blk;have HLS:Hid _:=fun i hi=>aGq h i hi (hs2 i hi);have HSH:Hid _:=hs1;have HSL:Hid _:=fun W F=>nt lm t.m9 W ((gA.of F).map (S:=fun _=>False) h.lims (fun e=>e)) h.rm (by omega);have N:Hid (∀W,Below w.heap.size w W->W.cell? ⟨x,1,none⟩=some (.map (some lm))/\∀p∈t.m9,p.s.size<=maxLen->(Instr.lookup 181 (.map (some lm)) (.string p.s) false).run prog W=.ok (.int .i64 p.n) W):=fun W F=>⟨(F.cell hxl).trans (h.blk.cell 1),fun p hp hs=>aBq ((gA.of F).map (S:=fun _=>False) h.lims (fun e=>e)) h.rm hp hs⟩
 have HMK:Hid _:=fun W=>callsIn_wide.1 (maps_Keys_113 (some lm) W);clear h;go_enter func71,ntmps71;go_wp2_with fail;refine(HMK.out _).mono ?_;rintro e w1 ⟨rfl,rfl⟩;have B2:Hid (Below w.heap.size w ((w.alloc (.cells #[.string ⟨#[]⟩,.int .i64 0,.slice none 0 0,.slice none 0 0] 107)).alloc (.cells #[.string o,.int .i64 t.l9,.slice none 0 0,.slice none 0 0] 107))):=pA (cA _ _) (cA _ _);have X2:Hid _:=bA (by have:=lA.new (w.alloc (.cells #[.string ⟨#[]⟩,.int .i64 0,.slice none 0 0,.slice none 0 0] 107)) #[.string o,.int .i64 t.l9,.slice none 0 0,.slice none 0 0] 107;simpa using this);have Y2:Hid (lA ((w.alloc (.cells #[.string ⟨#[]⟩,.int .i64 0,.slice none 0 0,.slice none 0 0] 107)).alloc (.cells #[.string o,.int .i64 t.l9,.slice none 0 0,.slice none 0 0] 107)) w.heap.size #[.string ⟨#[]⟩,.int .i64 0,.slice none 0 0,.slice none 0 0] 107):=(lA.new _ _ _).alloc _;generalize (w.alloc (.cells #[.string ⟨#[]⟩,.int .i64 0,.slice none 0 0,.slice none 0 0] 107)).alloc (.cells #[.string o,.int .i64 t.l9,.slice none 0 0,.slice none 0 0] 107)=w2 at *;go_wp2_with fail;refine(HSL.out _ B2.out).mono ?_;rintro e I ⟨kv,rfl,d,G⟩;obtain⟨ka,kc,rfl,u⟩:=ng d;have C:=bA u;have B3:Hid _:=pA B2.out G;have X3:Hid (lA I (w.heap.size+1) #[.string o,.int .i64 t.l9,.slice none 0 0,.slice none 0 0] 107):=X2.out.later G;have Y3:Hid (lA I w.heap.size #[.string ⟨#[]⟩,.int .i64 0,.slice none 0 0,.slice none 0 0] 107):=Y2.out.later G;have HX2:Hid _:=aA X2.out;clear d u G X2 Y2 B2 HSL HMK c0 c1;go_wp2;go_loopw [7,23] (fun _ i wr=>∃(k:Nat) (H:Value),k<=t.m9.length/\i=.int .i64 k/\Hid (lA wr (w.heap.size+1) #[.string o,.int .i64 t.l9,H,.slice none 0 0] 107)/\Hid (wr.ownsRow I.heap.size 111 2 H k (gV (t.m9.take k)))/\Hid (gA (·=w.heap.size+1) I wr)) (fun _ i _=>t.m9.length-(intOf i).toNat)
 case atStart=>exact⟨0,.slice none 0 0,Ha _,rfl,X3.out,World.ownsRow_nil _ _ _ _,gA.refl _ _⟩
 case round=>
  obtain⟨k,H,hk,rfl,l,j,a⟩:=hrel;by_cases b:k<t.m9.length
  ·have y:∃g,ka=some ⟨g,0,none⟩/\w2.heap.size<=g/\g<I.heap.size/\∀i (h:i<t.m9.length),I.cell? ⟨g,i,none⟩=some (.string t.m9[i].s):=by
    rcases C.out with V|V
    ·rw[V]at b;exact absurd b (by simp)
    ·exact V
   obtain⟨g,rfl,hg1,Z,d0⟩:=y;have hx2:=HX2.out;have f0:g≠w.heap.size+1:=by omega
   have hkey:=(World.cell?_of_block (a.out.block g Z f0)).trans (d0 k b);have c:Hid _:=(((gA.of (S:=fun i=>w.heap.size<=i) B3.out).trans' (a.out.mono fun i _ e=>by omega)).below (Da _) fun i hi h=>by omega)
   have HQ:Hid (∀W,Below w.heap.size w W->W.cell? ⟨x,1,none⟩=some (.map (some lm))/\(Instr.lookup 181 (.map (some lm)) (.string t.m9[k].s) false).run prog W=.ok (.int .i64 t.m9[k].n) W):=fun W F=>⟨(N.out W F).1,(N.out W F).2 _ (Db b) (HSH.out k b)⟩
   have L:Hid _:=JZ _ _ b;have B:=a.out.size;have hB3s:=B3.out.size;have g0:=fun q A=>(j.out.lt q A).1;have z:=j.out;have v5:wr.cell? ⟨w.heap.size+1,2,none⟩=some H:=l.out.cell 2;have ag:H.ownBlock≠some (w.heap.size+1):=fun e=>by have:=g0 _ e;omega
   obtain⟨q1,q2⟩:=HQ.out wr.drew c.out.drew;generalize t.m9[k]=P at *;have hXw:w.heap.size+1<wr.heap.size:=by omega
   go_wp2_with fail;go_region_law (refine uN (w:=wr.drew) (by rfl) _ _ (by rfl) underlying104 aR rfl (by omega) (by omega) (by rfl) z.drew (by rfl) (by rfl) (cs:=#[.string P.s,.int .i64 P.n]) rfl (by simp[Value.oneCell']) (by omega) (by exact B) ?_;intro gg cap w4 O4 U A4;have f:=bA (U.out.blk l.out (fun e=>by have:=e.1;omega));have s5:=f.out.cell 2;have f5:=f.out.free 2)
   all_goals
    obtain⟨X,h3,h4⟩:=bL (wr:=wr.drew) l.out U.out O4.out (by omega) 2;have T:=bA X;have O:=bA h3;have R:=bA (a.out.trans ((gA.of (Below.refl wr.heap.size wr).drew).trans' (h4.mono fun i _ e=>e.imp_right Me)));clear X h3 h4 s5 f5 f O4 U A4;go_wp2;exact⟨⟨k+1,_,by omega,by go_num,bA (by simpa using T.out),by rw[L.out];exact O,R.out⟩,by simp[intOf];omega⟩
  ·have ek:k=t.m9.length:=by omega
   have et:t.m9.take k=t.m9:=Pa (by omega);rw[et,ek]at j;obtain⟨ra,rc,rfl⟩:=uI j.out;have c:Hid _:=(((gA.of (S:=fun i=>w.heap.size<=i) B3.out).trans' (a.out.mono fun i _ e=>by omega)).below (Da _) fun i hi h=>by omega)
   have r:Hid (lA wr w.heap.size #[.string ⟨#[]⟩,.int .i64 0,.slice none 0 0,.slice none 0 0] 107):=a.out.blk Y3.out (by omega);have Y:Hid _:=aA X3.out;have h3r:Hid _:=a.out.size;clear et C N HSH B3 X3 Y3 HX2 a;generalize hwo:wr=wo at *;clear hwo;go_wp2_with fail;refine(HKY.out _ c.out).mono ?_;rintro e J ⟨kv,rfl,d,m⟩;obtain⟨kb,kd,rfl,u⟩:=ng d;have C:=bA u;have B5:Hid _:=pA c.out m;have X5:Hid (lA J (w.heap.size+1) #[.string o,.int .i64 t.l9,.slice ra t.m9.length rc,.slice none 0 0] 107):=l.out.later m;have Y5:Hid (lA J w.heap.size #[.string ⟨#[]⟩,.int .i64 0,.slice none 0 0,.slice none 0 0] 107):=r.out.later m;have O5:Hid (J.ownsRow I.heap.size 111 2 (.slice ra t.m9.length rc) t.m9.length (gV t.m9)):=(gA.of (S:=fun _=>False) m).row j.out (fun _ _ e=>e);have hWo:Hid (I.heap.size<=wo.heap.size/\wo.heap.size<=J.heap.size):=⟨h3r.out,m.size⟩
   clear d u m l j c r HKY;go_wp2;go_loopw [9,44] (fun _ i wr=>∃(k:Nat) (K:Value),k<=t.s9.length/\i=.int .i64 k/\Hid (lA wr (w.heap.size+1) #[.string o,.int .i64 t.l9,.slice ra t.m9.length rc,K] 107)/\Hid (wr.ownsRow J.heap.size 113 2 K k (gV (t.s9.take k)))/\Hid (gA (·=w.heap.size+1) J wr)) (fun _ i _=>t.s9.length-(intOf i).toNat)
   case atStart=>exact⟨0,.slice none 0 0,Ha _,rfl,X5.out,World.ownsRow_nil _ _ _ _,gA.refl _ _⟩
   case round=>
    obtain⟨k,K,hk,rfl,l,j,a⟩:=hrel;have c:Hid _:=(((gA.of (S:=fun i=>w.heap.size<=i) B5.out).trans' (a.out.mono fun i _ e=>by omega)).below (Da _) fun i hi h=>by omega)
    by_cases b:k<t.s9.length
    ·have y:∃g,kb=some ⟨g,0,none⟩/\wo.heap.size<=g/\g<J.heap.size/\∀i (h:i<t.s9.length),J.cell? ⟨g,i,none⟩=some (.string t.s9[i].s):=by
      rcases C.out with V|V
      ·rw[V]at b;exact absurd b (by simp)
      ·exact V
     obtain⟨g,rfl,hg1,Z,d0⟩:=y;have h31':=Y.out;have hwo':=hWo.out;have f0:g≠w.heap.size+1:=by omega
     have hkey:=(World.cell?_of_block (a.out.block g Z f0)).trans (d0 k b);obtain⟨q,HQ0⟩:=HLS.out k b;have HQ:Hid _:=HQ0;have L:Hid _:=JZ _ _ b;have B:=a.out.size;have g0:=fun q A=>(j.out.lt q A).1;have z:=j.out;have v5:wr.cell? ⟨w.heap.size+1,3,none⟩=some K:=l.out.cell 3;have ag:K.ownBlock≠some (w.heap.size+1):=fun e=>by have:=g0 _ e;omega
     obtain⟨q1,q2,q3,q4⟩:=HQ.out wr.drew c.out.drew;generalize t.s9[k]=P at *;have hXw:w.heap.size+1<wr.heap.size:=by omega
     clear HQ0;go_wp2_with fail;go_region_law (refine uN (w:=wr.drew) (by rfl) _ _ (by rfl) underlying105 wT rfl (by omega) (by omega) (by rfl) z.drew (by rfl) (by rfl) (cs:=#[.string P.s,.int .i64 P.n]) rfl (by simp[Value.oneCell']) (by omega) (by exact B) ?_;intro gg cap w4 O4 U A4;have f:=bA (U.out.blk l.out (fun e=>by have:=e.1;omega));have s5:=f.out.cell 3;have f5:=f.out.free 3)
     all_goals
      obtain⟨X,h3,h4⟩:=bL (wr:=wr.drew) l.out U.out O4.out (by omega) 3;have T:=bA X;have O:=bA h3;have R:=bA (a.out.trans ((gA.of (Below.refl wr.heap.size wr).drew).trans' (h4.mono fun i _ e=>e.imp_right Me)));clear X h3 h4 s5 f5 f O4 U A4;go_wp2;exact⟨⟨k+1,_,by omega,by go_num,bA (by simpa using T.out),by rw[L.out];exact O,R.out⟩,by simp[intOf];omega⟩
    ·have ek2:k=t.s9.length:=by omega
     have et:t.s9.take k=t.s9:=Pa (by omega);rw[et,ek2]at j;obtain⟨sa,sc,rfl⟩:=uI j.out;have r:Hid (lA wr w.heap.size #[.string ⟨#[]⟩,.int .i64 0,.slice none 0 0,.slice none 0 0] 107):=a.out.blk Y5.out (by omega);have a0:wr.cell? ⟨w.heap.size+1,0,none⟩=some (.string o):=l.out.cell 0;have a1:wr.cell? ⟨w.heap.size+1,1,none⟩=some (.int .i64 t.l9):=l.out.cell 1;have a2:wr.cell? ⟨w.heap.size+1,2,none⟩=some (.slice ra t.m9.length rc):=l.out.cell 2;have a3:wr.cell? ⟨w.heap.size+1,3,none⟩=some (.slice sa t.s9.length sc):=l.out.cell 3;have b0:wr.cell? ⟨w.heap.size,0,none⟩=some (.string ⟨#[]⟩):=r.out.cell 0;have b1:wr.cell? ⟨w.heap.size,1,none⟩=some (.int .i64 0):=r.out.cell 1;have b2:wr.cell? ⟨w.heap.size,2,none⟩=some (.slice none 0 0):=r.out.cell 2;have b3:wr.cell? ⟨w.heap.size,3,none⟩=some (.slice none 0 0):=r.out.cell 3;have e0:=r.out.free 0;have e1:=r.out.free 1;have e2:=r.out.free 2;have e3:=r.out.free 3;have HOM:Hid (wr.ownsRow I.heap.size 111 2 (.slice ra t.m9.length rc) t.m9.length (gV t.m9)):=a.out.row O5.out (fun q A e=>by have X:=(O5.out.lt q A).1;have h2:=Y.out;omega);go_wp2;have E:gA (·=w.heap.size) wr ((((wr.setCell ⟨w.heap.size,0,none⟩ (.string o)).setCell ⟨w.heap.size,1,none⟩ (.int .i64 t.l9)).setCell ⟨w.heap.size,2,none⟩ (.slice ra t.m9.length rc)).setCell ⟨w.heap.size,3,none⟩ (.slice sa t.s9.length sc)):=((((gA.refl (·=w.heap.size) wr).setCell (Ba rfl) 0 _).setCell (Ba rfl) 1 _).setCell (Ba rfl) 2 _).setCell (Ba rfl) 3 _;have h31':=Y.out;have hwo':=hWo.out;refine bodyPost_ret (v:=.agg #[.string o,.int .i64 t.l9,.slice ra t.m9.length rc,.slice sa t.s9.length sc]) (by simp[results,results71,go_sem,b0,b1,b2,b3]) rfl ⟨_,_,J.heap.size,rfl,ER (E.row HOM.out (fun q A e=>by have:=(HOM.out.lt q A).1;omega)) (by omega),(fun q A=>(O5.out.lt q A).2),by omega,by have X:=a.out.size;have h2:=E.size;omega,E.row j.out (fun q A e=>by have:=(j.out.lt q A).1;omega),((gA.of (S:=fun i=>w.heap.size<=i) c.out).trans' (E.mono fun i _ e=>by omega)).below (Da _) fun i hi h=>by omega⟩
end
theorem aBf (p:fA->Bool) (a:List fA) (j:Nat) (h:j<a.length):(a.take (j+1)).filter p=(a.take j).filter p++if p a[j]=true then [a[j]] else []:=by
 rw[La h,Ud];congr 1;by_cases e:p a[j]=true
 ·rw[Ga e,Ec e];rfl
 ·rw[Ca e,Jc e];rfl
theorem aKs (p:fA->Bool) (a:List fA) (j:Nat):((a.take j).filter p).length<=a.length:=by
 have b:=Tb p (a.take j);rw[Ta]at b;omega
def aMw (a:World) (t:eA) (X:Nat) (c:World):Prop:=
 ∃b d,lA c X #[.string t.name,.int .i64 t.l9,.slice (some ⟨b,0,none⟩) t.m9.length d,.slice none 0 0] 107/\c.ownsRow a.heap.size 111 2 (.slice (some ⟨b,0,none⟩) t.m9.length d) t.m9.length (flatK t.m9)/\a.heap.size<=X/\b≠X/\Below a.heap.size a c
theorem aLf (W:World) (cs a:Array Value) {t b:TypeId}:((W.alloc (.cells cs t)).alloc (.cells a b)).drew.heap[W.heap.size+1]?=some (.cells a b (0,0)):=by
 have h:lA ((W.alloc (.cells cs t)).alloc (.cells a b)) (W.alloc (.cells cs t)).heap.size a b:=lA.new _ _ _;have e:(W.alloc (.cells cs t)).heap.size=W.heap.size+1:=by simp
 rw[e]at h;exact h
theorem aLe (W:World) (cs:Array Value) {t:TypeId} (o:Obj):((W.alloc (.cells cs t)).alloc o).drew.heap[W.heap.size]?=some (.cells cs t (0,0)):=((lA.new W cs t).alloc o)
theorem bf {a c:World} {X:Nat} {d e f g:Value} (h:Below a.heap.size a c) (b:a.heap.size<=X):Below a.heap.size a ((((c.setCell ⟨X,0,none⟩ d).setCell ⟨X,1,none⟩ e).setCell ⟨X,2,none⟩ f).setCell ⟨X,3,none⟩ g):=(((h.setCell b _).setCell b _).setCell b _).setCell b _
theorem pk {w:World} {X:Nat} {v0 v1 v2 v3:Value}:gA (·=X) w ((((w.setCell ⟨X,0,none⟩ v0).setCell ⟨X,1,none⟩ v1).setCell ⟨X,2,none⟩ v2).setCell ⟨X,3,none⟩ v3):=((((gA.refl (·=X) w).setCell (Ba rfl) 0 _).setCell (Ba rfl) 1 _).setCell (Ba rfl) 2 _).setCell (Ba rfl) 3 _
theorem aKt {c d:World} {t:eA} {X b a n:Nat} (h:lA d X #[.string ⟨#[]⟩,.int .i64 0,.slice none 0 0,.slice none 0 0] 107) (f:c.heap.size<=X) (l:Below c.heap.size c d) (g:d.ownsRow c.heap.size 111 2 (.slice (some ⟨b,0,none⟩) (0+t.m9.length) a) (0+t.m9.length) ([]++flatK t.m9)) (i:b≠X) (j:n=t.m9.length):
 aMw c t X ((((d.setCell ⟨X,0,none⟩ (.string t.name)).setCell ⟨X,1,none⟩ (.int .i64 t.l9)).setCell ⟨X,2,none⟩ (.slice (some ⟨b,0,none⟩) n a)).setCell ⟨X,3,none⟩ (.slice none 0 0)):=by
 subst j;rw[Oa,Jb]at g;refine⟨b,a,?_,pk.row g (fun q k e=>by simp[Value.ownBlock]at k;omega),f,i,bf l f⟩;have:=(((h.set 0 (.string t.name)).set 1 (.int .i64 t.l9)).set 2 (.slice (some ⟨b,0,none⟩) t.m9.length a)).set 3 (.slice none 0 0);simpa using this
theorem aQd (W:World):(W.alloc (.cells #[] 111)).drew.ownsRow W.heap.size 111 2 (.slice (some ⟨W.heap.size,0,none⟩) 0 0) 0 []:=(World.ownsRow_made W #[] 0 (Da _) (by simp[maxLen]) (by simp)).drew
theorem aQe (W:World) (o:Obj):((W.alloc (.cells #[] 111)).alloc o).drew.ownsRow W.heap.size 111 2 (.slice (some ⟨W.heap.size,0,none⟩) 0 0) 0 []:=((World.ownsRow_made W #[] 0 (Da _) (by simp[maxLen]) (by simp)).alloc o).drew
theorem aQf (W:World) (o:Obj):((W.alloc o).alloc (.cells #[] 111)).drew.ownsRow W.heap.size 111 2 (.slice (some ⟨W.heap.size+1,0,none⟩) 0 0) 0 []:=by
 have:=(World.ownsRow_made (e:=111) (size:=2) (base:=W.heap.size) (W.alloc o) #[] 0 (by simp) (by simp[maxLen]) (by simp)).drew;simpa using this
theorem KG (t:eA) (z J:Option Addr) (K O:Nat) (d f:Int) (w:World) (p1:vA w z t.m9) (p2:vA w J t.s9) (hl1:t.m9.length<=2000000) (hl2:t.s9.length<=2000000) (hn0:0<=d) (hn1:d<=2000000000000) (hx:∀i (h:i<t.s9.length),0<=t.s9[i].n/\t.s9[i].n<=2000000000000):
 Calls prog 92 #[.agg #[.string t.name,.int .i64 t.l9,.slice z t.m9.length K,.slice J t.s9.length O],.int .i64 d,.int .i64 f] w fun e y=>YC w t.name (xD f d t) e y:=by
 have P1:=bA p1;have P2:=bA p2;have HX0:=bA hx;clear p1 p2 hx;go_enter func92,ntmps92;have B1:Hid (Below w.heap.size w ((w.alloc (.cells #[.string t.name,.int .i64 t.l9,.slice z t.m9.length K,.slice J t.s9.length O] 107)).alloc (.cells #[.string ⟨#[]⟩,.int .i64 0,.slice none 0 0,.slice none 0 0] 107))):=pA (cA _ _) (cA _ _);have T1:Hid (lA ((w.alloc (.cells #[.string t.name,.int .i64 t.l9,.slice z t.m9.length K,.slice J t.s9.length O] 107)).alloc (.cells #[.string ⟨#[]⟩,.int .i64 0,.slice none 0 0,.slice none 0 0] 107)) w.heap.size #[.string t.name,.int .i64 t.l9,.slice z t.m9.length K,.slice J t.s9.length O] 107):=(lA.new _ _ _).alloc _;have R1:Hid _:=bA (by have:=lA.new (w.alloc (.cells #[.string t.name,.int .i64 t.l9,.slice z t.m9.length K,.slice J t.s9.length O] 107)) #[.string ⟨#[]⟩,.int .i64 0,.slice none 0 0,.slice none 0 0] 107;simpa using this);go_upto_region 1 with fail;generalize (w.alloc (.cells #[.string t.name,.int .i64 t.l9,.slice z t.m9.length K,.slice J t.s9.length O] 107)).alloc (.cells #[.string ⟨#[]⟩,.int .i64 0,.slice none 0 0,.slice none 0 0] 107)=l at *;have Y:Hid ((flatK t.m9).length=t.m9.length*2):=CS _;have x:Hid (∀W,Below l.heap.size l W->dW W z t.m9.length (flatK t.m9)):=fun W hW=>by
  rcases P1.out.later (pA B1.out hW) with h0|⟨b,o,rfl,G,h⟩
  ·exact Ba (by rw[h0];rfl)
  ·exact Ea ⟨_,rfl,BE h⟩
 have H:Hid (∀y,Below l.heap.size l y->y.cell? ⟨w.heap.size,0,none⟩=some (.string t.name)/\y.cell? ⟨w.heap.size,1,none⟩=some (.int .i64 t.l9)/\y.cell? ⟨w.heap.size,2,none⟩=some (.slice z t.m9.length K)):=fun y h=>by
  have q:=T1.out.later h;exact⟨q.cell 0,q.cell 1,q.cell 2⟩
 obtain⟨x0,x1,x2⟩:=H.out l (Below.refl _ _);have hw1:=aA R1.out;go_cut [7] (fun p wx=>∃X,p=.pointer (some ⟨X,0,none⟩)/\aMw l t X wx)
 case first=>
  go_region_held3 (fun y=>y.cell? ⟨w.heap.size,0,none⟩=some (.string t.name)/\y.cell? ⟨w.heap.size,1,none⟩=some (.int .i64 t.l9)/\y.cell? ⟨w.heap.size,2,none⟩=some (.slice z t.m9.length K))
   (first|go_keep|exact H.out _ Q|exact H.out _ (bf Q (Da _))|exact H.out _ (bf Q (Be _))|exact H.out _ (JJ l _)|exact H.out _ (JK l _ _))
   (first
    |(refine rU (by rfl) _ _ (by rfl) underlying104 aR rfl (by omega) (by omega) (B:=l.heap.size) (by rfl) (by first|exact aQd l|exact aQe l _|exact aQf l _) (flatK t.m9) (by rfl) Y.out (by first|exact x.out _ (JJ l _)|exact x.out _ (JK l _ _)) (OU _) (by omega) (by first|exact(JJ l _).size|exact(JK l _ _).size) ?_;intro g5 g0 R m j0 m0 l0;have Q:Below l.heap.size l R:=(by first|exact(JJ l _).trans j0|exact(JK l _ _).trans j0);have c5:=H.out _ Q
      try (first
       |(have j:Hid (lA R (l.heap.size+1) #[.string ⟨#[]⟩,.int .i64 0,.slice none 0 0,.slice none 0 0] 107):=(m0 (l.heap.size+1) (by show _<(World.alloc _ _).heap.size;simp) (by omega)).trans (aLf l _ _))
       |(have j:Hid (lA R l.heap.size #[.string ⟨#[]⟩,.int .i64 0,.slice none 0 0,.slice none 0 0] 107):=(m0 l.heap.size (by show _<(World.alloc _ _).heap.size;simp;omega) (by omega)).trans (aLe l _ _)))
      try (have s0:=j.out.cell 0;have s1:=j.out.cell 1;have s2:=j.out.cell 2;have s3:=j.out.cell 3;have f0:=j.out.free 0;have f1:=j.out.free 1;have f2:=j.out.free 2;have f3:=j.out.free 3)))
  all_goals(go_wp2_with fail;go_meet)
  ·rw[Oa,Jb]at m;exact⟨_,rfl,g5,g0,lA.new _ _ _,cB m (cA _ _),Q.size,(by have:=(m.lt g5 rfl).2;omega),pA Q (cA _ _)⟩
  all_goals
   have e:∀o o':Obj,((l.alloc o).alloc o').drew.heap.size=l.heap.size+1+1:=fun o o'=>by show(World.alloc _ _).heap.size=_;simp
   rw[e]at l0;exact⟨_,rfl,aKt j.out (by omega) Q m (by omega) rfl⟩
 obtain⟨X,rfl,E,D,hX,hO,hXw,hgX,F⟩:=hcut;rename World=>A;have HXB:=bA hX;have HO1:=bA hO;have B2:Hid _:=F;have y3:A.cell? ⟨w.heap.size,3,none⟩=some (.slice J t.s9.length O):=(T1.out.later F).cell 3;have hX2:=aA hX;have HR2:Hid (lA A (w.heap.size+1) #[.string ⟨#[]⟩,.int .i64 0,.slice none 0 0,.slice none 0 0] 107):=R1.out.later F;have Z:Hid (∀q,(Value.slice (some ⟨E,0,none⟩) t.m9.length D).ownBlock=some q->q<A.heap.size/\q≠X):=fun q L=>⟨(hO.lt q L).2,by simp[Value.ownBlock]at L;omega⟩
 clear hX hO F H x Y x0 x1 x2 P1;go_wp2;clear y3;go_loopw [9,22] (fun _ i wr=>∃(k:Nat) (v:Value),k<=t.s9.length/\i=.int .i64 k/\Hid (lA wr X #[.string t.name,.int .i64 t.l9,.slice (some ⟨E,0,none⟩) t.m9.length D,v] 107)/\Hid (wr.ownsRow A.heap.size 113 2 v ((t.s9.take k).filter fun p=>decide (d-p.n<f)).length (flatK ((t.s9.take k).filter fun p=>decide (d-p.n<f))))/\Hid (gA (·=X) A wr)) (fun _ i _=>t.s9.length-(intOf i).toNat)
 case atStart=>exact⟨0,.slice none 0 0,Ha _,rfl,HXB.out,World.ownsRow_nil _ _ _ _,gA.refl _ _⟩
 case round=>
  obtain⟨k,v,hk,rfl,M,u,r⟩:=hrel;have hs2:=r.out.size;have V:Hid _:=(pA B1.out B2.out).trans (r.out.below (by omega) fun i hi e=>by omega);by_cases G:k<t.s9.length
  ·obtain⟨pb,po,rfl,hpl,z0,z1⟩:=(P2.out.later V.out).at G;have d0:Hid ((t.s9.take (k+1)).filter (fun p=>decide (d-p.n<f))=(t.s9.take k).filter (fun p=>decide (d-p.n<f))++if decide (d-t.s9[k].n<f)=true then [t.s9[k]] else []):=aBf _ _ _ G;have hyl:((t.s9.take k).filter fun p=>decide (d-p.n<f)).length<=2000000:=by
    have:=aKs (fun p=>decide (d-p.n<f)) t.s9 k;omega
   obtain⟨hb0,hb1⟩:=HX0.out k G;generalize (t.s9.take k).filter (fun p=>decide (d-p.n<f))=T at *;generalize t.s9[k]=P at *;have hwrp:IntKind.i64.wrap (d-P.n)=d-P.n:=by
    simp only[IntKind.wrap,IntKind.bits,IntKind.signed];simp;omega
   by_cases hc:d-P.n<f
   ·have HY:Hid ((t.s9.take (k+1)).filter (fun p=>decide (d-p.n<f))=T++[P]):=by show _=_;rw[d0.out,Ga (by simpa using hc)]
    go_upto_region 6 with fail;have N:Hid (Below wr.heap.size wr (wr.alloc (.cells #[.string P.s,.int .i64 P.n] 113))):=cA _ _;have u0:(wr.alloc (.cells #[.string P.s,.int .i64 P.n] 113)).cell? ⟨wr.heap.size,0,none⟩=some (.string P.s):=(lA.new _ _ _).cell 0;have u1:(wr.alloc (.cells #[.string P.s,.int .i64 P.n] 113)).cell? ⟨wr.heap.size,1,none⟩=some (.int .i64 P.n):=(lA.new _ _ _).cell 1;have hs5:wr.heap.size<(wr.alloc (.cells #[.string P.s,.int .i64 P.n] 113)).heap.size:=by simp
    clear z0 z1;generalize wr.alloc (.cells #[.string P.s,.int .i64 P.n] 113)=R at *;have j:Hid (lA R X #[.string t.name,.int .i64 t.l9,.slice (some ⟨E,0,none⟩) t.m9.length D,v] 107):=M.out.later N.out;have x3:R.cell? ⟨X,3,none⟩=some v:=j.out.cell 3;have R5:Hid (R.ownsRow A.heap.size 113 2 v T.length (flatK T)):=cB u.out N.out;have T5:=bA (r.out.trans (gA.of N.out));go_wp2_with(at_builtin;refine gL rfl _ _ rfl underlying105 wT rfl (by omega) (by omega) rfl R5.out rfl rfl (cs:=#[.string P.s,.int .i64 P.n]) rfl (by simp[Value.oneCell']) (by omega) (by omega) ?_;intro gg i0 w6 O6 T6 A6;have U:=bA (T6.out.blk j.out (fun e=>by have:=e.1;omega));have s6:=U.out.cell 3;have f6:=U.out.free 3);obtain⟨h1,h3,h4⟩:=bL j.out T6.out O6.out hX2 3;refine⟨⟨k+1,.slice (some ⟨gg,0,none⟩) (T.length+1) i0,by omega,by go_num,bA (by simpa using h1),?_,T5.out.trans (h4.mono fun i _ e=>e.imp_right Me)⟩,by simp[intOf];omega⟩;rw[HY.out,fV,Qa];exact h3
   ·have HY:Hid ((t.s9.take (k+1)).filter (fun p=>decide (d-p.n<f))=T):=by show _=_;rw[d0.out,Ca (by simpa using hc),Dd]
    have j:Hid (lA (wr.alloc (.cells #[.string P.s,.int .i64 P.n] 113)) X #[.string t.name,.int .i64 t.l9,.slice (some ⟨E,0,none⟩) t.m9.length D,v] 107):=M.out.alloc _;have R5:Hid ((wr.alloc (.cells #[.string P.s,.int .i64 P.n] 113)).ownsRow A.heap.size 113 2 v T.length (flatK T)):=cB u.out (cA _ _);have T5:Hid (gA (·=X) A (wr.alloc (.cells #[.string P.s,.int .i64 P.n] 113))):=r.out.trans (gA.of (cA _ _));go_wp2;refine⟨⟨k+1,v,by omega,by go_num,j.out,?_,T5.out⟩,by simp[intOf];omega⟩;rw[HY.out];exact R5
  ·have ek:t.s9.take k=t.s9:=Pa (by omega);rw[ek]at u;have C:Hid (wr.ownsRow A.heap.size 113 2 v (xD f d t).s9.length (flatK (xD f d t).s9)):=u.out;obtain⟨sa,sc,hv⟩:∃a c,v=.slice a (xD f d t).s9.length c:=by
    rcases C.out.2 with⟨e1,e2⟩|⟨g,cap,_,e1,_⟩
    ·exact⟨none,0,by rw[e1,e2]⟩
    ·exact⟨_,_,e1⟩
   rw[hv]at M C;clear u hv ek;generalize k0:(xD f d t).s9=KS at *;have I:Hid (lA wr (w.heap.size+1) #[.string ⟨#[]⟩,.int .i64 0,.slice none 0 0,.slice none 0 0] 107):=r.out.blk HR2.out (by omega);have a0:wr.cell? ⟨X,0,none⟩=some (.string t.name):=M.out.cell 0;have a1':wr.cell? ⟨X,1,none⟩=some (.int .i64 t.l9):=M.out.cell 1;have a2':wr.cell? ⟨X,2,none⟩=some (.slice (some ⟨E,0,none⟩) t.m9.length D):=M.out.cell 2;have a3:wr.cell? ⟨X,3,none⟩=some (.slice sa KS.length sc):=M.out.cell 3;have b0:wr.cell? ⟨w.heap.size+1,0,none⟩=some (.string ⟨#[]⟩):=I.out.cell 0;have b1:wr.cell? ⟨w.heap.size+1,1,none⟩=some (.int .i64 0):=I.out.cell 1;have b2:wr.cell? ⟨w.heap.size+1,2,none⟩=some (.slice none 0 0):=I.out.cell 2;have b3:wr.cell? ⟨w.heap.size+1,3,none⟩=some (.slice none 0 0):=I.out.cell 3;have e0:=I.out.free 0;have e1:=I.out.free 1;have e2:=I.out.free 2;have e3:=I.out.free 3;have c0:Hid (wr.ownsRow l.heap.size 111 2 (.slice (some ⟨E,0,none⟩) t.m9.length D) t.m9.length (flatK t.m9)):=r.out.row HO1.out (fun q L e=>(Z.out q L).2 e);go_wp2;refine bodyPost_ret (v:=.agg #[.string t.name,.int .i64 t.l9,.slice (some ⟨E,0,none⟩) t.m9.length D,.slice sa KS.length sc]) (by simp[results,results92,go_sem,b0,b1,b2,b3]) rfl ⟨A.heap.size,some ⟨E,0,none⟩,D,sa,sc,by rw[k0];rfl,by omega,?_,fun g o e=>(Z.out g (by cases e;rfl)).1,?_,?_,?_⟩
   ·exact(pC (pk.row c0.out (fun q L e=>by have:=(c0.out.lt q L).1;omega))).mono (by omega)
   ·rw[k0];exact pk.row C.out (fun q L e=>by have:=(C.out.lt q L).1;omega)
   ·have:=(pk (w:=wr) (X:=w.heap.size+1) (v0:=.string t.name) (v1:=.int .i64 t.l9) (v2:=.slice (some ⟨E,0,none⟩) t.m9.length D) (v3:=.slice sa KS.length sc)).size;omega
   ·exact((gA.of (S:=fun i=>w.heap.size<=i) V.out).trans' (pk.mono fun i _ e=>by omega)).below (Da _) fun i hi h=>by omega
theorem rx (t:eA) (c d:Option Addr) (l m:Nat) (a b:Int) (w:World) (p:vA w c t.m9) (q:vA w d t.s9) (f:t.m9.length<=2000000) (g:t.s9.length<=2000000) (j:0<=a) (k:a<=2000000000000) (o:∀i (h:i<t.s9.length),0<=t.s9[i].n/\t.s9[i].n<=2000000000000):
 Calls prog 92 #[.agg #[.string t.name,.int .i64 t.l9,.slice c t.m9.length l,.slice d t.s9.length m],.int .i64 a,.int .i64 b] w fun e r=>GL w t.name (xD b a t) e r:=
 (KG t c d l m a b w p q f g j k o).mono fun _ _ h=>h.tel
def XZ (x:eA):Prop:=x.m9.length<=2000000/\x.s9.length<=2000000/\∀i (h:i<x.s9.length),0<=x.s9[i].n/\x.s9[i].n<=2000000000000
theorem aMr (t p:eA) (l:List eA) (b:Bool):b=true/\(p.name.toList==t.name.toList)=true/\jH t (l,b) p=(l,true)\/b=true/\(p.name.toList==t.name.toList)=false/\jH t (l,b) p=(l++[p],true)\/
 b=false/\(p.name.toList==t.name.toList)=false/\(t.name.toList==p.name.toList)=false/\Op.bytesLess t.name.toList p.name.toList=false/\jH t (l,b) p=(l++[p],false)\/b=false/\(p.name.toList==t.name.toList)=false/\Op.bytesLess t.name.toList p.name.toList=true/\jH t (l,b) p=(l++[t]++[p],true)\/
 b=false/\(p.name.toList==t.name.toList)=true/\(t.name.toList==p.name.toList)=true/\Op.bytesLess t.name.toList p.name.toList=false/\jH t (l,b) p=(l++[t],true):=by
 cases b with
 |true=>cases h:(p.name.toList==t.name.toList)<;>simp[jH,h]
 |false=>
  by_cases f:uH p.name t.name=true
  ·have d:=mC (bH f);exact Ea (Ea (Ba ⟨rfl,d,mC (bH f).symm,jY f,by simp[jH,f,d]⟩))
  ·have e:uH p.name t.name=false:=by simpa using f
   by_cases g:uH t.name p.name=true
   ·have d:=mC (bH g).symm;exact Ea (Ea (Ea (Ba ⟨rfl,d,g,by simp[jH,e,d]⟩)))
   ·have j:=Decidable.byContradiction fun i=>g (qT e i);have d:=(xC _ _).2 j;exact Ea (Ea (Ea (Ea ⟨rfl,d,(xC _ _).2 j.symm,by simpa[uH]using g,by simp[jH,e,d]⟩)))
structure PW (w W:World) (c:nB) (now:Int) (a:Option Addr) (n cap:Nat) (t:eA) (a1:Option Addr) (c1:Nat) (a2:Option Addr) (c2:Nat):Prop where
 C:lA W w.heap.size #[.int .i64 c.w,.int .i64 c.tl,.int .i64 c.ml,.int .i64 c.sh,.int .i64 c.ha,.int .i64 c.sg] 40
 S:lA W (w.heap.size+1) #[.int .i64 now,.slice a n cap] 35
 T:lA W (w.heap.size+1+1) #[.string t.name,.int .i64 t.l9,.slice a1 t.m9.length c1,.slice a2 t.s9.length c2] 107
 R:lA W (w.heap.size+1+1+1) #[.int .i64 0,.slice none 0 0] 35
 B:Below w.heap.size w W
section
variable {w W W':World} {c:nB} {now:Int} {a:Option Addr} {n cap:Nat} {t:eA} {a1:Option Addr} {c1:Nat} {a2:Option Addr} {c2:Nat}
theorem PW.new (h:W=((((w.alloc (.cells #[.int .i64 c.w,.int .i64 c.tl,.int .i64 c.ml,.int .i64 c.sh,.int .i64 c.ha,.int .i64 c.sg] 40)).alloc (.cells #[.int .i64 now,.slice a n cap] 35)).alloc (.cells #[.string t.name,.int .i64 t.l9,.slice a1 t.m9.length c1,.slice a2 t.s9.length c2] 107)).alloc (.cells #[.int .i64 0,.slice none 0 0] 35))):
 PW w (W.alloc (.cells #[] 107)) c now a n cap t a1 c1 a2 c2/\(W.alloc (.cells #[] 107)).ownsRow (w.heap.size+4) 107 4 (.slice (some ⟨w.heap.size+1+1+1+1,0,none⟩) 0 0) 0 []/\w.heap.size+4<(W.alloc (.cells #[] 107)).heap.size:=by
 subst h;refine⟨⟨((((lA.new _ _ _).alloc _).alloc _).alloc _).alloc _,?_,?_,?_,pA (pA (pA (pA (cA _ _) (cA _ _)) (cA _ _)) (cA _ _)) (cA _ _)⟩,?_,by simp⟩
 ·have:=(((lA.new (w.alloc (.cells #[.int .i64 c.w,.int .i64 c.tl,.int .i64 c.ml,.int .i64 c.sh,.int .i64 c.ha,.int .i64 c.sg] 40)) #[.int .i64 now,.slice a n cap] 35).alloc (.cells #[.string t.name,.int .i64 t.l9,.slice a1 t.m9.length c1,.slice a2 t.s9.length c2] 107)).alloc (.cells #[.int .i64 0,.slice none 0 0] 35)).alloc (.cells #[] 107);simpa using this
 ·have:=((lA.new ((w.alloc (.cells #[.int .i64 c.w,.int .i64 c.tl,.int .i64 c.ml,.int .i64 c.sh,.int .i64 c.ha,.int .i64 c.sg] 40)).alloc (.cells #[.int .i64 now,.slice a n cap] 35)) #[.string t.name,.int .i64 t.l9,.slice a1 t.m9.length c1,.slice a2 t.s9.length c2] 107).alloc (.cells #[.int .i64 0,.slice none 0 0] 35)).alloc (.cells #[] 107);simpa using this
 ·have:=(lA.new (((w.alloc (.cells #[.int .i64 c.w,.int .i64 c.tl,.int .i64 c.ml,.int .i64 c.sh,.int .i64 c.ha,.int .i64 c.sg] 40)).alloc (.cells #[.int .i64 now,.slice a n cap] 35)).alloc (.cells #[.string t.name,.int .i64 t.l9,.slice a1 t.m9.length c1,.slice a2 t.s9.length c2] 107)) #[.int .i64 0,.slice none 0 0] 35).alloc (.cells #[] 107);simpa using this
 ·have:=World.ownsRow_made (e:=107) (size:=4) (base:=w.heap.size+4) ((((w.alloc (.cells #[.int .i64 c.w,.int .i64 c.tl,.int .i64 c.ml,.int .i64 c.sh,.int .i64 c.ha,.int .i64 c.sg] 40)).alloc (.cells #[.int .i64 now,.slice a n cap] 35)).alloc (.cells #[.string t.name,.int .i64 t.l9,.slice a1 t.m9.length c1,.slice a2 t.s9.length c2] 107)).alloc (.cells #[.int .i64 0,.slice none 0 0] 35)) #[] 0 (by simp) (by simp[maxLen]) (by simp);simpa using this
theorem PW.keep (h:PW w W c now a n cap t a1 c1 a2 c2) (b:Below (w.heap.size+4) W W'):PW w W' c now a n cap t a1 c1 a2 c2:=
 ⟨(b.block _ (by omega)).trans h.C,(b.block _ (by omega)).trans h.S,(b.block _ (by omega)).trans h.T,(b.block _ (by omega)).trans h.R,h.B.trans (b.mono (by omega))⟩
end
theorem AU (c:nB) (J now:Int) (a:Option Addr) (cap:Nat) (f:List eA) (t:eA) (a1 a2:Option Addr) (c1 c2:Nat) (w:World) (hf:eC w a f) (p1:vA w a1 t.m9) (p2:vA w a2 t.s9) (hlen:f.length<=2000000) (hfit:∀x,x=t\/x∈f->XZ x) (hn0:0<=now) (hn1:now<=2000000000000):
 Calls prog 91 #[tE c,.agg #[.int .i64 J,.slice a f.length cap],.int .i64 now,.agg #[.string t.name,.int .i64 t.l9,.slice a1 t.m9.length c1,.slice a2 t.s9.length c2]] w fun e w'=>∃a' cap',e=.returned (.agg #[.int .i64 now,.slice a' (sC c.w now (FY t t.name.toList.isEmpty f)).length cap'])/\uC w' w.heap.size a' (sC c.w now (FY t t.name.toList.isEmpty f))/\Below w.heap.size w w':=by
 have HF:=bA hf;have HP:=bA (Ee p1 p2);have HFT:=bA hfit;clear hf p1 p2 hfit;obtain⟨RES,G⟩:∃R,R=sC c.w now (FY t t.name.toList.isEmpty f):=⟨_,rfl⟩
 rw[<-G];have Z:=bA G;clear G;have HW:=bA (PW.new (w:=w) (c:=c) (now:=J) (a:=a) (n:=f.length) (cap:=cap) (t:=t) (a1:=a1) (c1:=c1) (a2:=a2) (c2:=c2) rfl);unfold tE;go_enter func91,ntmps91;go_upto_region 3 with fail;generalize (((((w.alloc (.cells #[.int .i64 c.w,.int .i64 c.tl,.int .i64 c.ml,.int .i64 c.sh,.int .i64 c.ha,.int .i64 c.sg] 40)).alloc (.cells #[.int .i64 J,.slice a f.length cap] 35)).alloc (.cells #[.string t.name,.int .i64 t.l9,.slice a1 t.m9.length c1,.slice a2 t.s9.length c2] 107)).alloc (.cells #[.int .i64 0,.slice none 0 0] 35)).alloc (.cells #[] 107))=w1 at *;generalize t.name.toList.isEmpty=V at *;obtain⟨hP,hL,hw1⟩:=HW.out;have P1:=bA hP;have L1:=bA hL;obtain⟨-,y1⟩:=hP.S.c2;clear hP hL HW;go_wp2;clear y1;go_loopw [9,10,12,24] (fun al pl _ i wr=>∃(k:Nat) (L:Option Addr) (N:Nat) (d:List TV),k<=f.length/\i=.int .i64 k/\al=.slice L d.length N/\pl=.bool (wU t V (f.take k)).2/\d.length<=2*k/\Hid (wr.ownsRow (w.heap.size+4) 107 4 (.slice L d.length N) d.length (xH d))/\Hid (d.map (·.t)=(wU t V (f.take k)).1)/\Hid (yx w d)/\Hid (Below (w.heap.size+4) w1 wr)) (fun _ _ _ i _=>f.length-(intOf i).toNat)
 case atStart=>exact⟨0,_,_,[],Ha _,rfl,rfl,rfl,Ha _,L1.out,rfl,fun y hy=>(by cases hy),Below.refl _ _⟩
 case round=>
  obtain⟨k,L,N,d,hk,rfl,rfl,rfl,hyl,HR,F,s,l⟩:=hrel;have hsr:=l.out.size;have Pr:=bA (P1.out.keep l.out);by_cases A:k<f.length
  ·obtain⟨pb,po,q1,d1,q2,d2,rfl,X,z0,z1,z2,z3,o1,o2⟩:=HF.out.at A;have HO:=bA (Ee o1 o2);have HU:=bA (vm t V f k A);have v0:=(Pr.out.B.cell X).trans z0;have v1:=(Pr.out.B.cell X).trans z1;have v2:=(Pr.out.B.cell X).trans z2;have v3:=(Pr.out.B.cell X).trans z3;clear z0 z1 z2 z3 o1 o2;generalize wU t V (f.take k)=U at *;generalize f[k]=P at *;obtain⟨LU,PU⟩:=U;have hy:d.map (·.t)=LU:=F.out;subst hy;obtain⟨u0,u1,u2,u3⟩:=Pr.out.T.c4;have hlr:w.heap.size+1+1<wr.heap.size:=by omega
   rcases aMr t P (d.map (·.t)) PU with⟨rfl,hs,hU⟩|⟨rfl,hs,hU⟩|⟨rfl,hs,h1,h2,hU⟩|⟨rfl,hs,h2,hU⟩|⟨rfl,hs,h1,h2,hU⟩
   all_goals
    have p:=bA (HU.out.trans hU);clear F HU hU;go_wp2_with(at_builtin;first
     |(refine bW rfl _ _ rfl underlying33 uJ rfl (by omega) (by omega) (v:=.slice (some ⟨g7,0,none⟩) (d.length+1) r) rfl m.out rfl rfl rfl (by simp[Value.oneCell']) (by omega) hs7 ?_;intro g8 cap8 D HR8 HT8)
     |(refine bW rfl _ _ rfl underlying33 uJ rfl (by omega) (by omega) (v:=.slice L d.length N) rfl (cB HR.out (cA _ _)) rfl (by simp) rfl (by simp[Value.oneCell']) (by omega) (by simp;omega) ?_;intro g7 r w7 m o;have hs7:w.heap.size+4<=w7.heap.size:=(by have:=o.out.size;simp at this;omega);clear u0 u1 u2 u3;obtain⟨u0,u1,u2,u3⟩:=(o.out.blk (Pr.out.T.alloc _) (fun e=>by omega)).c4;obtain⟨r0,r1,r2,r3⟩:=(o.out.blk (lA.new wr #[.string P.name,.int .i64 P.l9,.slice q1 P.m9.length d1,.slice q2 P.s9.length d2] 107) (fun e=>by have:=(HR.out.lt _ e.2).2;omega)).c4))
    first
     |(have q:=HR8;exact⟨⟨k+1,some ⟨g8,0,none⟩,cap8,d++[⟨t,a1,c1,a2,c2⟩]++[⟨P,q1,d1,q2,d2⟩],by omega,by go_num,by simp,by rw[p.out],by simp;omega,bA (by simpa[xH]using HR8.out),bA (by rw[p.out];simp),(s.out.snoc HP.out.1 HP.out.2).snoc HO.out.1 HO.out.2,bA ((l.out.trans (((cA _ _).mono (by omega)).trans (o.out.below (by simp;omega) fun i hi e=>by omega))).trans (HT8.out.below hs7 fun i hi e=>by omega))⟩,by simp[intOf];omega⟩)
     |(have q:=m;have q:(P.name.toList==t.name.toList)=false:=hs;exact⟨⟨k+1,some ⟨g7,0,none⟩,r,d++[⟨P,q1,d1,q2,d2⟩],by omega,by go_num,by simp,by rw[p.out],by simp;omega,bA (by simpa[xH]using m.out),bA (by rw[p.out];simp),s.out.snoc HO.out.1 HO.out.2,bA (l.out.trans (((cA _ _).mono (by omega)).trans (o.out.below (by simp;omega) fun i hi e=>by omega)))⟩,by simp[intOf];omega⟩)
     |(have q:=m;exact⟨⟨k+1,some ⟨g7,0,none⟩,r,d++[⟨t,a1,c1,a2,c2⟩],by omega,by go_num,by simp,by rw[p.out],by simp;omega,bA (by simpa[xH]using m.out),bA (by rw[p.out];simp),s.out.snoc HP.out.1 HP.out.2,bA (l.out.trans (((cA _ _).mono (by omega)).trans (o.out.below (by simp;omega) fun i hi e=>by omega)))⟩,by simp[intOf];omega⟩)
     |exact⟨⟨k+1,L,N,d,by omega,by go_num,rfl,by rw[p.out],by omega,cB HR.out (cA _ _),bA (by rw[p.out]),s.out,l.out.trans ((cA _ _).mono (by omega))⟩,by simp[intOf];omega⟩
  ·have ek:f.take k=f:=Pa (by omega);rw[ek]at F |-
   have HWA:Hid (FY t V f=(wU t V f).1++if (wU t V f).2=true then [] else [t]):=rfl;generalize wU t V f=U at *;obtain⟨LU,PU⟩:=U;have hy:d.map (·.t)=LU:=F.out;subst hy;have hyl2:d.length<=4000000:=by omega
   obtain⟨u0,u1,u2,u3⟩:=Pr.out.T.c4;clear ek hyl F;go_upto_if 52 with fail;go_cut [9] (fun al wx=>∃(L:Option Addr) (N:Nat) (d:List TV),al=.slice L d.length N/\d.length<=4000001/\wx.ownsRow (w.heap.size+4) 107 4 (.slice L d.length N) d.length (xH d)/\d.map (·.t)=FY t V f/\yx w d/\Below (w.heap.size+4) w1 wx)
   case first=>
    cases PU
    all_goals
     go_wp2_with(at_builtin;refine bW rfl _ _ rfl underlying33 uJ rfl (by omega) (by omega) (v:=.slice L d.length N) rfl HR.out rfl rfl rfl (by simp[Value.oneCell']) (by omega) (by omega) ?_;intro g7 r w7 m o);go_meet;first
      |(have q:=m;exact⟨some ⟨g7,0,none⟩,r,d++[⟨t,a1,c1,a2,c2⟩],by simp,by simp;omega,by simpa[xH]using m.out,by rw[HWA.out];simp,s.out.snoc HP.out.1 HP.out.2,l.out.trans (o.out.below (by omega) fun i hi e=>by omega)⟩)
      |exact⟨_,_,d,rfl,by omega,HR.out,by rw[HWA.out];simp,s.out,l.out⟩
   clear HR s l Pr HWA u0 u1 u2 u3 hyl2;obtain⟨L,N,d,rfl,hyl2,hR,hY,hO,hB⟩:=hcut;rename World=>D;have HTA:=bA (aMd hR hO);have P8:=bA (P1.out.keep hB);have hs8:=hB.size;have HRL:Hid (RES=sC c.w now (d.map (·.t))):=by show _=_;rw[Z.out,hY]
   have HFY:Hid (∀i (h:i<d.length),XZ d[i].t):=fun i h=>HFT.out _ (by
    have hm:d[i].t∈d.map (·.t):=Pc (Db h);rw[hY]at hm;exact aJi hm)
   clear hR hY hO hB Z HFT P1 L1;go_wp2;have HX9:=bA (lA.new D #[.int .i64 now,.slice none 0 0] 35);have B9:=bA (cA D (.cells #[.int .i64 now,.slice none 0 0] 35));have hs9:D.heap.size<(D.alloc (.cells #[.int .i64 now,.slice none 0 0] 35)).heap.size:=by simp
   generalize D.alloc (.cells #[.int .i64 now,.slice none 0 0] 35)=w9 at *;go_loopw [15,16,61] (fun _ _ i wr=>∃(k:Nat) (v:Value),k<=d.length/\i=.int .i64 k/\Hid (lA wr D.heap.size #[.int .i64 now,v] 35)/\Hid (pO wr w9.heap.size 107 v (sC c.w now ((d.map (·.t)).take k)).length (sC c.w now ((d.map (·.t)).take k)))/\Hid (gA (·=D.heap.size) w9 wr)) (fun _ _ i _=>d.length-(intOf i).toNat)
   case atStart=>exact⟨0,.slice none 0 0,Ha _,rfl,HX9.out,pO.nil _ _ _,gA.refl _ _⟩
   case round=>
    obtain⟨k,v,hk,rfl,HX,E,z⟩:=hrel;have hs9r:=z.out.size;have BWr:=bA ((pA P8.out.B B9.out).trans (z.out.below (by omega) fun i hi e=>by omega));by_cases A:k<d.length
    ·obtain⟨b,hbe,hb8,z0,z1,z2,z3,o1,o2⟩:=HTA.out k A;have H:∀j,wr.cell? ⟨b,j,none⟩=D.cell? ⟨b,j,none⟩:=fun j=>World.cell?_of_block ((z.out.block b (by omega) (by omega)).trans (B9.out.block b hb8));have v0:=(H _).trans z0;have v1:=(H _).trans z1;have v2:=(H _).trans z2;have v3:=(H _).trans z3;clear H z0 z1 z2 z3;cases hbe
     have HT:Hid (sC c.w now ((d.map (·.t)).take (k+1))=sC c.w now ((d.map (·.t)).take k)++if bE (xD c.w now d[k].t)=true then [] else [xD c.w now d[k].t]):=by
      show _=_;rw[aFu _ _ _ _ (by rw[Ua];exact A)];simp
     have hkl:(sC c.w now ((d.map (·.t)).take k)).length<=4000001:=by
      have:=aNy c.w now (d.map (·.t)) k;rw[Ua]at this;omega
     obtain⟨f1,f2,f3⟩:=HFY.out k A;have HKT:Hid (∀W,Below w.heap.size w W->Calls prog 92 #[.agg #[.string d[k].t.name,.int .i64 d[k].t.l9,.slice d[k].a1 d[k].t.m9.length d[k].c1,.slice d[k].a2 d[k].t.s9.length d[k].c2],.int .i64 now,.int .i64 c.w] W fun e w'=>GL W (xD c.w now d[k].t).name (xD c.w now d[k].t) e w'):=fun W hW=>rx d[k].t _ _ _ _ now c.w W (o1.later hW) (o2.later hW) f1 f2 hn0 hn1 f3;unfold GL at HKT;clear o1 o2 f1 f2 f3;generalize sC c.w now ((d.map (·.t)).take k)=KL at *;generalize xD c.w now d[k].t=K at *;generalize d[k]=Y at *;obtain⟨x0,-⟩:=((z.out.blk (P8.out.C.later B9.out) (by omega)).alloc (.cells #[.string Y.t.name,.int .i64 Y.t.l9,.slice Y.a1 Y.t.m9.length Y.c1,.slice Y.a2 Y.t.s9.length Y.c2] 107)).c6;go_wp2_with fail;refine(HKT.out _ (pA BWr.out (cA _ _))).mono ?_;rintro e w4 ⟨M,x1,e1,x2,e2,rfl,hM,h1,h1M,h2,hM4,hb4⟩;have hM':wr.heap.size<=M:=by simp at hM;omega
     have HH1:Hid (aD w4 wr.heap.size x1 K.m9):=h1.mono (by simp);have HH2:=bA (Ee h1M h2);have B4:=bA (pA (cA _ _) hb4);have hs4:=B4.out.size;clear hM h1 h1M h2 hb4 x0 v0 v1 v2 v3;go_wp2_with fail;refine(AR K _ _ _ _ _).mono ?_;rintro e w5 ⟨rfl,hb5⟩;have B45:Hid _:=pA (cA _ _) hb5;have B5:=bA (pA B4.out B45.out);have X5:=bA ((lA.new w4 #[.string K.name,.int .i64 K.l9,.slice x1 K.m9.length e1,.slice x2 K.s9.length e2] 107).later hb5);have O5:=bA (HX.out.later B5.out);have T5:Hid _:=z.out.trans (gA.of B5.out);have hs5:=aA X5.out;clear hb5 HKT;cases hidl:bE K with
     |true=>
      have HTT:Hid (sC c.w now ((d.map (·.t)).take (k+1))=KL):=by show _=_;rw[HT.out,Ga hidl,Dd]
      clear hidl;go_wp2;refine⟨⟨k+1,v,by omega,by go_num,O5.out,?_,T5.out⟩,by simp[intOf];omega⟩;rw[HTT.out];exact E.out.turn (gA.of (S:=fun _=>False) B5.out) (fun _ e=>e.elim)
     |false=>
      have HTT:Hid (sC c.w now ((d.map (·.t)).take (k+1))=KL++[K]):=by show _=_;rw[HT.out,Ca (by rw[hidl];simp)]
      clear hidl;obtain⟨TG,zs,hV1,hV2,hV3,hV4⟩:=E.out;have HV1:=bA (cB hV1 B5.out);have Q:=bA (⟨hV2,hV3,hV4⟩:_/\_/\_);have HOB:=bA (fun q (hq:v.ownBlock=some q)=>hV1.lt q hq);clear hV1 hV2 hV3 hV4;obtain⟨-,s1⟩:=O5.out.c2;obtain⟨r0,r1,r2,r3⟩:=X5.out.c4;go_wp2_with(at_builtin;refine gL rfl _ _ rfl underlying33 uJ rfl (by omega) (by omega) (v:=v) rfl HV1.out rfl rfl rfl (by simp[Value.oneCell']) (by omega) (by omega) ?_;intro gg u w6 HO6 O HAT6;have BX6:=bA (O.out.blk O5.out (fun e=>by omega));obtain⟨-,s2⟩:=BX6.out.c2;have s3:=BX6.out.free);have hgg:(v.ownBlock=some gg/\gg<wr.heap.size)\/w4.heap.size<=gg:=HAT6.out.elim (fun h=>Ba ⟨h,(HOB.out _ h).2⟩) fun h=>Ea (by omega);have hgb:=hgg.elim (fun h=>(HOB.out _ h.1).1) fun h=>by omega
      have I:gA (·=D.heap.size) w6 (w6.setCell ⟨D.heap.size,1,none⟩ (.slice (some ⟨gg,0,none⟩) (KL.length+1) u)):=(gA.refl (·=D.heap.size) w6).setCell (Ba rfl) 1 _;have hgs:=O.out.size;have hk5:∀g,g<w5.heap.size->w9.heap.size<=g->v.ownBlock≠some g->(w6.setCell ⟨D.heap.size,1,none⟩ (.slice (some ⟨gg,0,none⟩) (KL.length+1) u)).heap[g]?=w5.heap[g]?:=fun g hg hgR2 hne=>by
       rw[I.block g (by omega) (by omega),O.out.block g hg (fun e=>hne e.2)]
      refine⟨⟨k+1,.slice (some ⟨gg,0,none⟩) (KL.length+1) u,by omega,by go_num,bA (by have:=BX6.out.set 1 (.slice (some ⟨gg,0,none⟩) (KL.length+1) u);simpa using this),?_,(T5.out.trans (O.out.mono fun i _ e=>Ea e.1)).trans' I⟩,by simp[intOf];omega⟩;rw[HTT.out,Qa];have hyk:zs.length=KL.length:=by rw[<-Q.out.1,Ua]
      exact pO.snoc (wr:=wr) (w4:=w4) (M:=M) (v:=v) (T:=TG) (ys:=zs) (I.row HO6.out (fun q hq e=>by simp[Value.ownBlock]at hq;omega)) Q.out.1 hyk Q.out.2.1 Q.out.2.2 (by omega) hM'
       (fun g hg hgR2 hne=>(hk5 g (by omega) hgR2 hne).trans (B5.out.block g hg))
       (fun g hg hg4=>(hk5 g (by omega) (by omega) (fun e=>by have:=(HOB.out _ e).2;omega)).trans (B45.out.block g hg4))
       HH1.out HH2.out.1 HH2.out.2 hgg hs4 hM4
    ·have ek:(d.map (·.t)).take k=d.map (·.t):=Pa (by rw[Ua];omega);rw[ek,<-HRL.out]at E;obtain⟨ra,rc,rfl⟩:=E.out.row;have Yr:=bA (z.out.blk (P8.out.R.later B9.out) (by omega));obtain⟨x0,x1⟩:=HX.out.c2;obtain⟨y0,y1⟩:=Yr.out.c2;have f0:=Yr.out.free;go_wp2;have HTE:gA (·=w.heap.size+1+1+1) wr ((wr.setCell ⟨w.heap.size+1+1+1,0,none⟩ (.int .i64 now)).setCell ⟨w.heap.size+1+1+1,1,none⟩ (.slice ra RES.length rc)):=((gA.refl (·=w.heap.size+1+1+1) wr).setCell (Ba rfl) 0 _).setCell (Ba rfl) 1 _;refine bodyPost_ret (v:=.agg #[.int .i64 now,.slice ra RES.length rc]) (by simp[results,results91,go_sem,y0,y1]) rfl ⟨ra,⟨rc,rfl⟩,((E.out.turn HTE (fun g e=>by omega)).own rfl).mono (by omega),((gA.of (S:=fun i=>w.heap.size<=i) BWr.out).trans' (HTE.mono fun i _ e=>by omega)).below (Da _) fun i hi h=>by omega⟩
