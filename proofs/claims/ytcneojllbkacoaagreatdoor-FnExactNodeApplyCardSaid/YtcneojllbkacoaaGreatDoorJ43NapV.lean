import Derived.Test.YtcneojllbkacoaaGreatDoorJ31IPop
import Derived.Test.YtcneojllbkacoaaGreatDoorJ40OpNd
set_option maxRecDepth 100000
set_option maxHeartbeats 4000000
namespace Go.Proofs.YtcneojllbkacoaaGreatDoor
open Go.RowKit
theorem DZ (a b:Option Addr) (ca cb:Nat) (N:bD) (w:World):
 Calls Tryz.prog 32 #[.agg #[.slice a N.d.fs.length ca,.int .i64 N.d.c,.int .i64 N.d.k,.int .i64 N.d.cr,.int .i64 N.d.fl,.bool N.d.dn,.int .i64 N.l.first,.int .i64 N.l.last,.int .i64 N.l.size,.int .i64 N.now,.slice b N.ts.length cb,.int .i64 N.lsn,.bool N.deg,.bool N.up]] w fun e w'=>e=.returned (.bool (N.up&&!N.deg))∧Below w.heap.size w w':=by
 obtain ⟨d,l,now,ts,lsn,deg,up⟩:=N;cases up<;>cases deg
 all_goals (
  go_enter Tryz.func32,Tryz.ntmps32
  go_wp2
  go_ret
  exact ⟨rfl,bA _ _⟩)
theorem YZ (a b a':Option Addr) (ca cb ca':Nat) (N:bD) (K:cE) (L:fF) (w:World):
 Calls Tryz.prog 37 #[.agg #[.slice a N.d.fs.length ca,.int .i64 N.d.c,.int .i64 N.d.k,.int .i64 N.d.cr,.int .i64 N.d.fl,.bool N.d.dn,.int .i64 N.l.first,.int .i64 N.l.last,.int .i64 N.l.size,.int .i64 N.now,.slice b N.ts.length cb,.int .i64 N.lsn,.bool N.deg,.bool N.up],.agg #[.slice a' K.fs.length ca',.int .i64 K.c,.int .i64 K.k,.int .i64 K.cr,.int .i64 K.fl,.bool K.dn],.agg #[.int .i64 L.first,.int .i64 L.last,.int .i64 L.size]] w fun e w'=>e=.returned (.agg #[.slice a' K.fs.length ca',.int .i64 K.c,.int .i64 K.k,.int .i64 K.cr,.int .i64 K.fl,.bool K.dn,.int .i64 L.first,.int .i64 L.last,.int .i64 L.size,.int .i64 N.now,.slice b N.ts.length cb,.int .i64 N.lsn,.bool true,.bool (!K.dn)])∧Below w.heap.size w w':=by
 go_enter Tryz.func37,Tryz.ntmps37;go_wp2;refine bodyPost_ret (v:=.agg #[.slice a' K.fs.length ca',.int .i64 K.c,.int .i64 K.k,.int .i64 K.cr,.int .i64 K.fl,.bool K.dn,.int .i64 L.first,.int .i64 L.last,.int .i64 L.size,.int .i64 N.now,.slice b N.ts.length cb,.int .i64 N.lsn,.bool true,.bool (!K.dn)]) (by simp [results,Tryz.results37,go_sem]) rfl ⟨rfl,?_⟩;exact rA (rA (rA (bA _ _) (bA _ _)) (bA _ _)) (bA _ _)
theorem NY (a b:Option Addr) (ca cb:Nat) (N:bD) (w:World) (hf:kA w a N.d.fs) (hl:N.d.fs.length≤1048576) (ht:pB w b N.ts) (hlt:N.ts.length≤2000000) (hfit:∀t∈N.ts,t.mets.length≤2000000∧t.sers.length≤2000000):
 Calls Tryz.prog 31 #[.agg #[.slice a N.d.fs.length ca,.int .i64 N.d.c,.int .i64 N.d.k,.int .i64 N.d.cr,.int .i64 N.d.fl,.bool N.d.dn,.int .i64 N.l.first,.int .i64 N.l.last,.int .i64 N.l.size,.int .i64 N.now,.slice b N.ts.length cb,.int .i64 N.lsn,.bool N.deg,.bool N.up]] w fun e w'=>∃a' ca' b' cb',e=.returned (.agg #[.slice a' N.d.fs.length ca',.int .i64 N.d.c,.int .i64 N.d.k,.int .i64 N.d.cr,.int .i64 N.d.fl,.bool N.d.dn,.int .i64 N.l.first,.int .i64 N.l.last,.int .i64 N.l.size,.int .i64 N.now,.slice b' N.ts.length cb',.int .i64 N.lsn,.bool N.deg,.bool N.up])∧wH w' (fun x=>w.heap.size≤x∧x<w'.heap.size) a' b' N∧Below w.heap.size w w':=by
 have HC:=iA (fun W (hW:Below w.heap.size w W)=>KE a ca N.d.fs W (hf.later hW) hl);have HS:=iA (fun W (hW:Below w.heap.size w W)=>aU N.now b cb N.ts W (ht.later hW) hlt hfit);clear hf ht hfit;go_enter Tryz.func31,Tryz.ntmps31;go_wp2_with fail;refine (HC.out _ (rA (bA _ _) (bA _ _))).mono ?_;rintro e w1 ⟨v,rfl,ho1,hb1⟩;obtain ⟨a',ca',rfl,hw1⟩:=kF ho1;have P1:=iA (((lA.new w _ _).alloc _).later hb1);have R1:=iA ((lA.new (w.alloc _) _ _).later hb1);simp only [World.size_alloc] at R1 hw1;have W1:=iA (hw1.toA (Nat.le_refl _));have B1:=iA (rA (rA (bA _ _) (bA _ _)) hb1);have hz1:=hb1.size;simp only [World.size_alloc] at hz1;obtain ⟨o0,o1,o2,o3,o4,o5,o6,o7,o8,o9,o10,o11,o12,o13⟩:=P1.out.n14;obtain ⟨f0,f1,f2,f3,f4,f5,f6,f7,f8,f9,f10,f11,f12,f13⟩:=P1.out.frees;clear hb1 ho1 hw1 HC;go_wp2_with fail;refine aLu (C:=fun W=>Calls Tryz.prog _ _ W _) P1.out ?_;intro w2 P2 T2;have R2:=iA (T2.blk R1.out (by omega));have W2:=iA (W1.out.turned T2 (fun x hx _ e=>by omega));have hz2:=T2.size;have B2:=iA (B1.out.trans (T2.below (by have:=B1.out.size;omega) (fun k hk e=>by omega)));clear o0 o1 o2 o3 o4 o5 o6 o7 o8 o9 o10 o11 o12 o13 f0 f1 f2 f3 f4 f5 f6 f7 f8 f9 f10 f11 f12 f13 P1 R1 W1 B1 T2;refine (HS.out _ B2.out).mono ?_;rintro e w3 ⟨b',cb',rfl,ho3,hb3⟩;have W3:=iA (W2.out.later hb3);have X3:=iA (ho3.toA (Nat.le_refl _));have B3:=iA (rA B2.out hb3);have hz3:=hb3.size;obtain ⟨o0,o1,o2,o3,o4,o5,o6,o7,o8,o9,o10,o11,o12,o13⟩:=(P2.later hb3).n14;obtain ⟨f0,f1,f2,f3,f4,f5,f6,f7,f8,f9,f10,f11,f12,f13⟩:=(P2.later hb3).frees;obtain ⟨r0,r1,r2,r3,r4,r5,r6,r7,r8,r9,r10,r11,r12,r13⟩:=(R2.out.later hb3).n14;obtain ⟨g0,g1,g2,g3,g4,g5,g6,g7,g8,g9,g10,g11,g12,g13⟩:=(R2.out.later hb3).frees;clear hb3 ho3 P2 R2 W2 B2 HS;go_wp2;refine bodyPost_ret (v:=.agg #[.slice a' N.d.fs.length ca',.int .i64 N.d.c,.int .i64 N.d.k,.int .i64 N.d.cr,.int .i64 N.d.fl,.bool N.d.dn,.int .i64 N.l.first,.int .i64 N.l.last,.int .i64 N.l.size,.int .i64 N.now,.slice b' N.ts.length cb',.int .i64 N.lsn,.bool N.deg,.bool N.up]) (by simp [results,Tryz.results31,go_sem,r0,r1,r2,r3,r4,r5,r6,r7,r8,r9,r10,r11,r12,r13]) rfl ?_;refine dA.end2 (S:=fun x=>x=w.heap.size∨x=w.heap.size+1) (C:=fun W=>∃a1 c1 b1 d1,Ending.returned (.agg #[.slice a' N.d.fs.length ca',.int .i64 N.d.c,.int .i64 N.d.k,.int .i64 N.d.cr,.int .i64 N.d.fl,.bool N.d.dn,.int .i64 N.l.first,.int .i64 N.l.last,.int .i64 N.l.size,.int .i64 N.now,.slice b' N.ts.length cb',.int .i64 N.lsn,.bool N.deg,.bool N.up])=Ending.returned (.agg #[.slice a1 N.d.fs.length c1,.int .i64 N.d.c,.int .i64 N.d.k,.int .i64 N.d.cr,.int .i64 N.d.fl,.bool N.d.dn,.int .i64 N.l.first,.int .i64 N.l.last,.int .i64 N.l.size,.int .i64 N.now,.slice b1 N.ts.length d1,.int .i64 N.lsn,.bool N.deg,.bool N.up])∧wH W (fun x=>w.heap.size≤x∧x<W.heap.size) a1 b1 N∧Below w.heap.size w W) w3 (by
  repeat (with_reducible first | exact dA.refl _ _ | refine dA.setCell ?_ (Or.inl (by first | exact Or.inl rfl | exact Or.inr rfl)) _ _)) ?_
 intro w6 T6;have hz6:=T6.size;exact ⟨_,_,_,_,rfl,⟨_,_,W3.out.turned T6 (fun x hx _ e=>by omega),X3.out.turned T6 (fun x hx _ e=>by omega),fun x hx=>by omega,fun x hx=>by omega,fun x hx e=>by omega⟩,B3.out.trans (T6.below (by have:=B3.out.size;omega) (fun k hk e=>by omega))⟩
def upB (N:bD):Bool:=N.up&&!N.deg
def aAf (N:bD) (R:cE×fF×Nat) (S:Int×List cA×Bool):bD×Int:=
 if R.2.2=0 then (⟨R.1,R.2.1,S.1,S.2.1,N.lsn+1,false,true⟩,0)
 else if R.2.2=22∨R.2.2=23∨R.2.2=21 then (N,R.2.2)
 else (⟨R.1,R.2.1,N.now,N.ts,N.lsn,true,!R.1.dn⟩,R.2.2)
def gP (c:eC) (N:bD) (rs:List pC):bD×Int:=
 if jH c=false then (bQ,61) else if upB N=false then (N,60)
 else if (rE c N.now N.ts rs).2.2=false∨mA N.lsn 0 999999999999999=false∨eJ (N.lsn+1) rs=ByteArray.empty then (N,62)
 else aAf N (yC N.d N.l (eJ (N.lsn+1) rs) c.sg) (rE c N.now N.ts rs)
section
variable {c:eC}{N:bD}{rs:List pC}{R:cE×fF×Nat}{S:Int×List cA×Bool}
theorem aNu (h:jH c=false):gP c N rs=(bQ,61):=by unfold gP;rw [if_pos h]
theorem aNw (h:jH c=true):upB N=false∧gP c N rs=(N,60)∨upB N=true∧((rE c N.now N.ts rs).2.2=false∧gP c N rs=(N,62)∨(rE c N.now N.ts rs).2.2=true∧(mA N.lsn 0 999999999999999=false∧gP c N rs=(N,62)∨mA N.lsn 0 999999999999999=true∧(eJ (N.lsn+1) rs=ByteArray.empty∧gP c N rs=(N,62)∨(eJ (N.lsn+1) rs).toList.isEmpty=false∧gP c N rs=aAf N (yC N.d N.l (eJ (N.lsn+1) rs) c.sg) (rE c N.now N.ts rs)))):=by
 unfold gP;rw [if_neg (by simp [h])];cases h1:upB N
 ·exact Or.inl ⟨rfl,if_pos rfl⟩
 refine Or.inr ⟨rfl,?_⟩;rw [if_neg (by simp)];cases h2:(rE c N.now N.ts rs).2.2
 ·exact Or.inl ⟨rfl,if_pos (Or.inl rfl)⟩
 refine Or.inr ⟨rfl,?_⟩;cases h3:mA N.lsn 0 999999999999999
 ·exact Or.inl ⟨rfl,if_pos (Or.inr (Or.inl rfl))⟩
 refine Or.inr ⟨rfl,?_⟩;by_cases h4:eJ (N.lsn+1) rs=ByteArray.empty
 ·exact Or.inl ⟨h4,if_pos (Or.inr (Or.inr h4))⟩
 ·exact Or.inr ⟨GU.2 h4,if_neg (by simp [h4])⟩
theorem aNv:(((R.2.2:Int)==0)=true∧((R.2.2:Int)==22)=false∧((R.2.2:Int)==23)=false∧((R.2.2:Int)==21)=false∧aAf N R S=(⟨R.1,R.2.1,S.1,S.2.1,N.lsn+1,false,true⟩,0))∨
 (((R.2.2:Int)==0)=false∧¬(R.2.2:Int)=0∧((((R.2.2:Int)==22)=true∨((R.2.2:Int)==22)=false∧(((R.2.2:Int)==23)=true∨((R.2.2:Int)==23)=false∧((R.2.2:Int)==21)=true))∧aAf N R S=(N,(R.2.2:Int))∨
   ((R.2.2:Int)==22)=false∧((R.2.2:Int)==23)=false∧((R.2.2:Int)==21)=false∧aAf N R S=(⟨R.1,R.2.1,N.now,N.ts,N.lsn,true,!R.1.dn⟩,(R.2.2:Int)))):=by
 unfold aAf;by_cases h0:R.2.2=0
 ·exact Or.inl ⟨by simp [h0],by simp [h0],by simp [h0],by simp [h0],by simp [h0]⟩
 refine Or.inr ⟨by simp;omega,by omega,?_⟩;by_cases h1:R.2.2=22∨R.2.2=23∨R.2.2=21
 ·refine Or.inl ⟨?_,by simp [h0,h1]⟩;rcases h1 with h | h | h<;>simp [h]
 ·refine Or.inr ⟨by simp;omega,by simp;omega,by simp;omega,by simp [h0,h1]⟩
end
theorem EI:∀rs:List pC,(rI rs).size=12 * rs.length+uB rs
 | []=>rfl
 | r :: q=>by
   have:=EI q;show (OD r++rI q).size=12 * (q.length+1)+(r.tenant.size+r.text.size+uB q)
   rw [ByteArray.size_append,aEl];omega
theorem aBy {lsn:Int}{rs:List pC} (h:rs.length+uB rs≤1048576):(eJ lsn rs).size≤1100000:=by
 by_cases hb:zT lsn rs
 ·have:=hb.2.2.2.1;rw [NI hb,ByteArray.size_append,NJ,EI];omega
 ·rw [nO hb];exact Nat.zero_le _
theorem AP {D:cE}{L:fF}{f:ByteArray} (h:IL D.fs):IL (gF D L f).1.fs:=by
 have hs:(gL L.last).size≤maxLen:=by have:=eQ (L.last);unfold maxLen;omega
 have h1:IL (xD D (pF L.last f)).1.fs:=sW h hs (Nat.zero_le _);have h2:=sW (op:=cO L.last) h1 hs (Nat.zero_le _);unfold gF;split
 ·exact h1
 ·split<;>exact h2
theorem TJ {D:cE}{L:fF}{p:ByteArray}{most:Int} (h:IL D.fs):IL (yC D L p most).1.fs:=by
 have h1:IL (xD D (sG (L.last+1))).1.fs:=sW h (by have:=eQ (L.last+1);unfold maxLen;show (gL (L.last+1)).size≤_;omega) (Nat.zero_le _);unfold yC;repeat' split
 all_goals first | exact h | exact h1 | exact AP h1 | exact AP h
theorem NH {c:eC}{now:Int}{ts:List cA}{rs:List pC} (hbk:ts.length+nA ts+rs.length+uB rs≤1048576):(rE c now ts rs).2.1.length+nA (rE c now ts rs).2.1≤1100000:=by
 have h0:ts.length+nA ts≤1100000:=by omega
 unfold rE;split
 ·exact Nat.zero_le _
 ·rename_i hs;have:=kZ (rs:=rs) (c:=c) (now:=now) (ts:=ts) (by simpa using hs);repeat' split
  all_goals first | exact h0 | omega
theorem aGc {c:eC}{N:bD}{rs:List pC} (hf:IL N.d.fs) (hbk:N.ts.length+nA N.ts+rs.length+uB rs≤1048576):IL (gP c N rs).1.d.fs∧(gP c N rs).1.ts.length+nA (gP c N rs).1.ts≤1100000:=by
 have h0:N.ts.length+nA N.ts≤1100000:=by omega
 have h1:=TJ (L:=N.l) (p:=eJ (N.lsn+1) rs) (most:=c.sg) hf;have h2:=NH (c:=c) (now:=N.now) hbk;unfold gP aAf;repeat' split
 all_goals first | exact ⟨aCd,Nat.zero_le _⟩ | exact ⟨hf,h0⟩ | exact ⟨h1,h2⟩ | exact ⟨h1,h0⟩
structure aPo (w:World) (a b:Option Addr) (N:bD) (ar:Option Addr) (rs:List pC):Prop where
 files:kA w a N.d.fs
 fit:IL N.d.fs
 tens:pB w b N.ts
 recs:oE w ar rs
 bulk:N.ts.length+nA N.ts+rs.length+uB rs≤1048576
 rng:aDf rs
 lsn:I64 N.lsn
theorem QV {ts:List cA} (h:ts.length+nA ts≤1048576):∀t∈ts,t.mets.length≤2000000∧t.sers.length≤2000000:=fun t ht=>by
 obtain ⟨i,hi,rfl⟩:=List.getElem_of_mem ht;have h1:=lJ ts i hi;have h2:=jL ts (i+1);unfold zC at h1;omega
end Go.Proofs.YtcneojllbkacoaaGreatDoor
