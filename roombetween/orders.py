"""Orders of machines: at each place the number of the machine that stands there."""


def one_machine_more(orders, machines):
    grown = []
    for order in orders:
        for machine in range(machines):
            if machine not in order:
                grown.append(order + (machine,))
    return grown


# Built place by place from 0 upwards, orders stand in order by themselves.
def all_orders(machines):
    orders = [()]
    for place in range(machines):
        orders = one_machine_more(orders, machines)
    return orders


def in_order(chances, order):
    return [chances[machine] for machine in order]
