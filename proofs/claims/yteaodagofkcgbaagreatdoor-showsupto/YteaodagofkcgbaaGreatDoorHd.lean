import Derived.Below
import Derived.BigQuiet
import Derived.BigRegion
import Derived.Carry
import Derived.Deep.AppendLies
import Derived.Deep.Cut
import Derived.Deep.CutRange
import Derived.Deep.DeepCutAuto
import Derived.Deep.DeepHandedRow
import Derived.Deep.DeepMakeLenPanics
import Derived.Deep.DeepRowAt
import Derived.Deep.LoopGhost
import Derived.Deep.OwnRows
import Derived.Deep.QuietTactic
import Derived.Deep.RegionHeld2
import Derived.Deep.RegionHeld3
import Derived.Deep.RegionLaw
import Derived.Deep.RegionWith
import Derived.Deep.Slices
import Derived.DiesKit
import Derived.LaidEqlPtr
import Derived.LaidMore
import Derived.Laws.AppendOwn
import Derived.Laws.BitsAllLaws
import Derived.Laws.BytesArg
import Derived.Laws.CopyOwn
import Derived.Lib.AppendStr
import Derived.Lib.ConvBytes
import Derived.Lib.FrozenHead
import Derived.Lib.LaidTab
import Derived.Lib.SliceRun
import Derived.Lib.Strings
import Derived.OpenShut
import Derived.OrdersHeld
import Derived.ProofKit
import Derived.RegionTactic
import Derived.SevenTiedAt
import Derived.SevenTold
import Derived.SizedLaws
import Derived.Stop.Joined
import Derived.Stop.LaidErr
import Derived.WalkKit
import Derived.WalkLawsBesides
import Derived.WalkSpells
import GoSem.ClaimJoined
import Derived.Test.YteaodagofkcgbaaGreatDoorCards
import Derived.Test.YteaodagofkcgbaaGreatDoorTie
namespace Go.Proofs.YteaodagofkcgbaaGreatDoor
open Go.RowKit
def yH(p:Prop):Prop:=p
theorem yH.o{p:Prop}(h:yH p):p:=h
theorem yH.out{p:Prop}(h:yH p):p:=h
theorem yH.m{P f a w R}{R':Ending->World->Prop}(h:yH (Calls P f a w R))(r:∀e w',R e w'->R' e w'):Calls P f a w R':=Calls.mono h r
abbrev yz(w:World):Nat:=w.heap.size
abbrev yC:=Calls Tryz.prog
abbrev yc(w:World)(b i:Nat)(v:Value):Prop:=w.cell? ⟨b,i,none⟩=some v
abbrev i6(x:Int):Value:=.int .i64 x
theorem aa{p:Prop}(h:p):yH p:=h
abbrev yB:=ByteArray
abbrev yL:=List UInt8
abbrev yW(w:World):=Below w.heap.size w
abbrev qA(b:Nat):Option Addr:=some ⟨b,0,none⟩
theorem yX{α}(a:α):∃x,x=a:=⟨a,rfl⟩
theorem Ug:type_of% @Nat.le_refl:=@Nat.le_refl
theorem Uh:type_of% @List.getElem?_eq_getElem:=@List.getElem?_eq_getElem
theorem Ui:type_of% @if_neg:=@if_neg
theorem Uj:type_of% @if_pos:=@if_pos
theorem Uk:type_of% @List.mem_cons_self:=@List.mem_cons_self
theorem Ul:type_of% @List.mem_cons_of_mem:=@List.mem_cons_of_mem
theorem Um:type_of% @Array.getElem?_eq_some_iff:=@Array.getElem?_eq_some_iff
theorem Un:type_of% @Below.refl:=@Below.refl
theorem Uo:type_of% @List.mem_singleton:=@List.mem_singleton
theorem Up:type_of% @List.getD_eq_getElem?_getD:=@List.getD_eq_getElem?_getD
theorem Uq:type_of% @List.length_append:=@List.length_append
theorem Ur:type_of% @cell_of_row:=@cell_of_row
theorem Us:type_of% @Nat.lt_of_lt_of_le:=@Nat.lt_of_lt_of_le
theorem Ut:type_of% @Nat.le_trans:=@Nat.le_trans
theorem Uu:type_of% @List.length_drop:=@List.length_drop
theorem Uv:type_of% @decide_eq_false:=@decide_eq_false
theorem Uw:type_of% @decide_eq_true:=@decide_eq_true
theorem Ux:type_of% @List.getElem?_eq_some_iff:=@List.getElem?_eq_some_iff
theorem Uy:type_of% @heap_setCell_other:=@heap_setCell_other
theorem Uz:type_of% @World.cell?_of_block:=@World.cell?_of_block
theorem UA:type_of% @List.mem_append:=@List.mem_append
theorem UB:type_of% @bodyPost_ret:=@bodyPost_ret
theorem UC:type_of% @List.mem_cons:=@List.mem_cons
theorem UD:type_of% @Nat.zero_le:=@Nat.zero_le
theorem UE:type_of% @World.block_lt_of_cell?:=@World.block_lt_of_cell?
theorem UF:type_of% @Array.getElem?_eq_none:=@Array.getElem?_eq_none
theorem UG:type_of% @heap_alloc_new:=@heap_alloc_new
theorem UH:type_of% @List.length_eq_zero_iff:=@List.length_eq_zero_iff
theorem UI:type_of% @List.append_assoc:=@List.append_assoc
theorem UJ:type_of% @List.length_cons:=@List.length_cons
theorem UK:type_of% @List.getElem?_map:=@List.getElem?_map
theorem UL:type_of% @Below.heap_setCell:=@Below.heap_setCell
theorem UM:type_of% @List.length_map:=@List.length_map
theorem UN:type_of% @List.length_take:=@List.length_take
theorem UO:type_of% @List.mem_map:=@List.mem_map
theorem UP:type_of% @List.mem_append_right:=@List.mem_append_right
theorem UQ:type_of% @List.mem_of_getElem?:=@List.mem_of_getElem?
theorem UR:type_of% @List.mem_append_left:=@List.mem_append_left
theorem US:type_of% @frozen_of_row:=@frozen_of_row
theorem UT:type_of% @if_false:=@if_false
theorem UU:type_of% @List.append_nil:=@List.append_nil
theorem UW:type_of% @List.getElem?_append_left:=@List.getElem?_append_left
theorem UX:type_of% @List.getD_cons_zero:=@List.getD_cons_zero
theorem UY:type_of% @IntKind.wrap_i64:=@IntKind.wrap_i64
theorem UZ:type_of% @List.drop_eq_getElem_cons:=@List.drop_eq_getElem_cons
theorem U0:type_of% @wpList_append_lies:=@wpList_append_lies
theorem U3:type_of% @UInt8.toNat_ofNat':=@UInt8.toNat_ofNat'
theorem U4:type_of% @List.take_of_length_le:=@List.take_of_length_le
theorem U5:type_of% @if_true:=@if_true
theorem U6:type_of% @Below.heap_alloc:=@Below.heap_alloc
theorem U7:type_of% @setCell_eq_setRow:=@setCell_eq_setRow
theorem U8:type_of% @World.ownsRow_nil:=@World.ownsRow_nil
theorem U9:type_of% @List.getElem?_eq_none:=@List.getElem?_eq_none
theorem Va:type_of% @Decidable.byContradiction:=@Decidable.byContradiction
theorem Vb:type_of% @List.take_succ_eq_append_getElem:=@List.take_succ_eq_append_getElem
theorem Vc:type_of% @List.getElem_mem:=@List.getElem_mem
theorem Vd:type_of% @beq_eq_false_iff_ne:=@beq_eq_false_iff_ne
theorem Ve:type_of% @List.getElem?_set_ne:=@List.getElem?_set_ne
theorem Vf:type_of% @List.getElem?_append_right:=@List.getElem?_append_right
theorem Vg:type_of% @List.append_cancel_left:=@List.append_cancel_left
theorem Vh:type_of% @List.length_set:=@List.length_set
theorem Vi:type_of% @Array.getElem?_setIfInBounds:=@Array.getElem?_setIfInBounds
theorem Vj:type_of% @Nat.zero_add:=@Nat.zero_add
theorem Vk:type_of% @setRow_heap:=@setRow_heap
theorem Vl:type_of% @List.map_append:=@List.map_append
theorem Vm:type_of% @List.length_singleton:=@List.length_singleton
theorem Vn:type_of% @Classical.byContradiction:=@Classical.byContradiction
theorem Vo:type_of% @heap_setCell_same:=@heap_setCell_same
theorem Vp:type_of% @info_parts:=@info_parts
theorem Vq:type_of% @List.mem_range:=@List.mem_range
theorem Vr:type_of% @Bool.and_eq_true:=@Bool.and_eq_true
theorem Vs:type_of% @List.not_mem_nil:=@List.not_mem_nil
theorem Vt:type_of% @List.length_pos_iff:=@List.length_pos_iff
theorem Vu:type_of% @List.getElem?_toArray:=@List.getElem?_toArray
theorem Vv:type_of% @List.getElem?_take:=@List.getElem?_take
theorem Vw:type_of% @Array.ext_getElem?:=@Array.ext_getElem?
theorem Vx:type_of% @cell_one_new:=@cell_one_new
theorem Vy:type_of% @List.all_eq_true:=@List.all_eq_true
theorem Vz:type_of% @List.map_congr_left:=@List.map_congr_left
theorem VA:type_of% @run_convert_bytes_arg:=@run_convert_bytes_arg
theorem VB:type_of% @List.take_append_drop:=@List.take_append_drop
theorem VD:type_of% @List.cons.injEq:=@List.cons.injEq
theorem VE:type_of% @List.getElem?_drop:=@List.getElem?_drop
theorem VF:type_of% @List.take_add_one:=@List.take_add_one
theorem VG:type_of% @ownsRow_setCell_below:=@ownsRow_setCell_below
theorem VH:type_of% @Nat.mod_eq_of_lt:=@Nat.mod_eq_of_lt
theorem VI:type_of% @IntKind.wrap_u8':=@IntKind.wrap_u8'
theorem VJ:type_of% @decide_eq_true_eq:=@decide_eq_true_eq
theorem VK:type_of% @Nat.not_lt:=@Nat.not_lt
theorem VL:type_of% @List.nil_append:=@List.nil_append
theorem VM:type_of% @List.take_length:=@List.take_length
theorem VO:type_of% @List.filter_append:=@List.filter_append
theorem VP:type_of% @List.countP_append:=@List.countP_append
theorem VQ:type_of% @List.ext_getElem?:=@List.ext_getElem?
end Go.Proofs.YteaodagofkcgbaaGreatDoor
